import PyProof.Rows.All
import Wide.All
import OpenK.AllK
import Wide.FinOn
import HandS.ForExc
import HandS.ForMost
import HandS.Flow
import HandS.Walk
import HandS.ExcOwn
import HandS.WordsExc
import HandS.Ends
import HandS.Lambda
import HandS.Nested
import KE.KSuper
import KE.DataEq
import PyProof.ReprReads
import HandS.TupAny
import HandS.TupMul
import HandS.Conv
import HandS.IsInst
import HandS.WordsDict
import HandS.Deep
import HandS.Style
import KE.SortData
import KE.GoesMore
import HandS.Iter
import HandS.SetFor
import HandS.NoneIn
import KE.KEqSeq
import HandS.Zip
import HandS.TryOnly
import HandS.ExcIs
import PyProof.Rows.StrDigits
import HandS.TryMany
import HandS.EndTab
import HandS.HotCalls
import KE.KNestM
import KE.RegKIsAll
import HandS.SetBool
import HandS.DictComp
import HandS.TupSets
import HandS.Strs
import PyProof.ListNew
import HandS.Defaults
import HandS.Small
import HandS.Star
import KE.DataMinKey
import HandS.SortKw
import KE.KUnpack
import HandS.More
import HandS.GenCall
import HandS.GenYield
import HandS.GenList
import KE.DataFind
import HandS.FStr
import HandS.Text
import HandS.RaiseMore
import KE.KUnpackStar
import HandS.Replace
import HandS.ReplaceDef
import HandS.ReplaceLit
import HandS.DictTup
import HandS.Property
import HandS.ClsMeth
import KE.KMathG
import KE.KMathGC
import PySem.Challenge.RW_writebacks_k44_view_objects_answer
set_option Elab.async false
set_option linter.all false
set_option autoImplicit false
set_option maxRecDepth 100000
namespace MW
open PySem PySem.Spec PyProof.Rows L2
/-- room for a call; gq: no repr is under way -/
structure RoomQ (gq : Bool) (k : Nat) (A : Around) : Prop where
  rm : Room k A
  gd : gq = true → A.guards = some []
section
variable {gq : Bool}
theorem RoomQ.mono {j k : Nat} {A : Around} (r : RoomQ gq k A) (h : j ≤ k) : RoomQ gq j A := ⟨r.rm.mono h, r.gd⟩
theorem RoomQ.units {k : Nat} {A : Around} (r : RoomQ gq k A) : A.units + 64 < cLine := r.rm.units
theorem RoomQ.un {k : Nat} {A : Around} (r : RoomQ gq k A) : A.units + 16 * k + 200 < cLine := r.rm.un
theorem RoomQ.deeper {k : Nat} {A : Around} (r : RoomQ gq (k + 1) A) (env : Env) : RoomQ gq k (A.deeper env) := ⟨r.rm.deeper env, fun z => by
  have h := r.gd z
  first | exact h | (simp [Around.deeper, h])⟩
end
structure FnQ (gq : Bool) (P : Program) (w : World) (K : PySem.W.Frag) (mg : Str → Option Value) (base : Heap) (k : Nat) (f : Addr) (fd : FuncData) (ps : List Str) (sp : Sp) : Prop where
  len : ∀ vs H Q E, sp vs H Q E → vs.length = ps.length
  run : ∀ (A : Around) (outer : List Env) (s : Shared) (H : Hp) (args : Args) (us : List Value) (vs : List V) (Q : VK) (E : XK), RoomQ gq k A → Env0 P w K mg base A outer s H → BindsTo s fd args (ps.zip us) → Vals vs us → sp vs H Q E →
    codeAny (model P w) A (.call (.ref f) args) (CR (L2.CX P w) outer P w H s Q E) s
abbrev FnG (P : Program) (w : World) (K : PySem.W.Frag) (mg : Str → Option Value) (base : Heap) (k : Nat) (f : Addr) (fd : FuncData) (ps : List Str) (sp : Sp) : Prop := FnQ true P w K mg base k f fd ps sp
section
variable {gq : Bool}
variable {P : Program} {w : World} {K : PySem.W.Frag} {mg : Str → Option Value} {base : Heap} {f : Addr} {fd : FuncData} {ps N : List Str} {sp : Sp}
theorem FnQ.mono {j k : Nat} (F : FnQ gq P w K mg base j f fd ps sp) (h : j ≤ k) : FnQ gq P w K mg base k f fd ps sp := ⟨F.len, fun A outer s H args us vs Q E hr => F.run A outer s H args us vs Q E (hr.mono h)⟩
theorem FnQ.imp {k : Nat} {sp' : Sp} (F : FnQ gq P w K mg base k f fd ps sp) (h : ∀ vs H Q E, sp' vs H Q E → sp vs H Q E) : FnQ gq P w K mg base k f fd ps sp' :=
  ⟨fun vs H Q E q => F.len vs H Q E (h _ _ _ _ q), fun A outer s H args us vs Q E hr e0 hb rv q => F.run A outer s H args us vs Q E hr e0 hb rv (h _ _ _ _ q)⟩
/-- a def, by what its body does -/
theorem FnQ.of {x qual : Str} {st : Stmt} {k : Nat} (F : L2.Fun K x qual st f fd) (S : FnScope N ps (defScope st)) (len : ∀ vs H Q E, sp vs H Q E → vs.length = ps.length)
    (body : ∀ (cdv : Value) (A : Around) (outer : List Env) (s : Shared) (H : Hp) (vs : List V) (Q : VK) (E : XK), RoomQ gq k (A.deeper (envOfC qual (defScope st) s.heap.objs.size f cdv)) → sp vs H Q E →
      ∃ t, PSs (cxOf (L2.CX P w) P w K mg base N qual (defScope st) f cdv A outer s H E) (defBody st) t ∧ t { nx := fun _ H' => Q .non H', rt := Q } (start N vs) H) : FnQ gq P w K mg base (k + 1) f fd ps sp := by
  obtain ⟨oc, od, kV, doc, pm, an, cdv, ct, osl, rfl, lk, hcd⟩ := F.ex
  constructor
  · exact len
  intro A outer s H args us vs Q E hr e0 hb rv hsp
  have hvs : vs.length = ps.length := len _ _ _ _ hsp
  have keep := fun b o e => (e0.bs b o e).1
  have kin : K.In s.heap := e0.mod.kin.keeps keep
  have nolim : s.heap.NoLimit := e0.mod.nolimit.keeps keep
  apply codeAny_call_function hr.rm.depth (kin _ _ lk) rfl S.co S.gen rfl (PySem.W.codeRec_of kin hcd)
  apply hb
  refine wpAny_newFunctionEnv_cells S.kind ?_ ?_
  · rintro ⟨y, u⟩ hy
    have hyp := S.par y (List.of_mem_zip hy).1
    cases hyp with
    | inl q => exact Or.inl q
    | inr q => exact Or.inr ⟨q, PySem.W.cellsFrom_some _ _ _ (Or.inl q)⟩
  · intro env henv s1 x
    subst henv
    constructor
    · exact nolim.keeps x.toInCall.keep
    · apply codeAny_func
      obtain ⟨t, ht, hq⟩ := body cdv A outer s H vs Q E (hr.deeper _) hsp
      have I0 : Inv (cxOf (L2.CX P w) P w K mg base N qual (defScope st) f cdv A outer s H E) [] (start N vs) H s1 := inv_start (CX := L2.CX P w) S hr.rm.hd e0 hvs rv x
      have run := ht.run [] s1 (start N vs) H _ I0 hq
      apply wpAny_mono run
      · intro fl s' hs
        have ends : ∀ {σ' : L2.St} {H' : Hp} {v : V} {u : Value}, Inv (cxOf (L2.CX P w) P w K mg base N qual (defScope st) f cdv A outer s H E) [] σ' H' s' → RelV v u → Q v H' → CE outer P w H s Q u s' := by
          intro σ' H' v u J ru q
          exact ⟨v, H', J.os, J.bare, J.base, J.hok, ru, q⟩
        match fl, hs with
        | .ret u, ⟨v, σ', H', J, ru, q⟩ => exact ends J ru q
        | .next, ⟨σ', H', J, q⟩ => exact ends (v := V.non) (u := Value.none) J rfl q
        | .brk, ⟨_, _, _, q⟩ => exact q.elim
        | .cont, ⟨_, _, _, q⟩ => exact q.elim
      · exact fun e s' hs => hs
end
section
variable {gq : Bool} {X : Cx} {k : Nat} {f : Addr} {fd : FuncData} {ps : List Str} {sp : Sp} {x : Str} {p pos : Pos} {e : Expr} {es : List Expr} {t : TA} {E : L2.St → XK}
theorem pe_callG (F : FnQ gq X.prog X.w X.K X.mg X.base k f fd ps sp) (hr : RoomQ gq k X.A) (hg : Gl X x) (hm : X.mg x = some (.ref f)) (hk : PySem.W.keepIn X.K (.ref f) = true) (hb : Binds X.K fd ps []) (hx : ∀ σ, PassesAt (L2.CX X.prog X.w) X σ (E σ))
    (ha : PA X (e :: es) t) (hdb : (x == ("__debug__" : Str)) = false := by decide) (he : starEach (e :: es) X.env = (false, eval e X.env) :: starEach es X.env := by rfl) (hpl : (backTo pos (starEach es X.env)).any (·.1) = false := by rfl) :
    PE X (.Call (.Name x p) (e :: es) [] pos) (tCallS sp E t) := by
  constructor
  intro pins s σ H Q I h
  apply wpAny_Call_Name_kw
  apply ld_glob I hg hm _ hdb
  refine PySem.W.callWith_K (h₀ := X.base) I.ok.mod.kin hk (thn (ha.run pos pins s σ H _ I h) ?_) he hpl
  rintro us s1 ⟨vs, H1, I1, r, q⟩
  refine ⟨I1.kIn, ?_⟩
  have n : us.length = ps.length := by rw [← F.len _ _ _ _ q, r.length]
  have bd : BindsTo s1 fd ⟨us, []⟩ (ps.zip us) := by
    have z := hb s1 us I1.kIn (by simpa using n)
    simpa using z
  have run := F.run X.A X.stack s1 H1 ⟨us, []⟩ us vs Q (E σ) hr I1.env0 bd r q
  apply wpAny_call
  apply codeAny_mono run
  intro r s' hq
  match r, hq with
  | .error e, hq => exact hx σ pins H1 s1 e s' I1 hq
  | .ok (.ret u), hq => exact I1.after hq
  | .ok .next, hq => exact hq.elim
  | .ok .brk, hq => exact hq.elim
  | .ok .cont, hq => exact hq.elim
end
end MW
namespace MW
open PySem PySem.Spec PyProof.Rows L2
abbrev D := PyData
abbrev Sts := L2.St
abbrev Ev := List (Option D)
abbrev Fg := PySem.W.Frag
def keyD : L2.Key → D
  | .inl i => .int i
  | .inr x => .str x
/-- what no value of a program is shown as: in the data that tell an instance, so that these can't be shown -/
def noShow : D := .int (2 ^ 2000)
theorem noShow_ns : PyData.showable noShow = false := by decide +kernel
/-- the data that tell an instance: its class's name, its attributes -/
abbrev insD (cn : Str) (ps : List (D × D)) : D := .dict ((.none, .str cn) :: (.none, noShow) :: ps)
/-- the built-in classes that a class of one's own is asked for -/
abbrev insTs : List String := ["int", "bool", "str", "list", "tuple"]
/-- the attributes that instances bear -/
abbrev fldNames : List Str := ["_shown", "_table", "_kept", "_log", "_tuples", "_wishes", "_views", "_state", "_before", "_desk", "_number"]
/-- the classes of view objects, and what all of them have from the first -/
abbrev viewNames : List Str := ["View", "TableView", "KeptView", "LoggedView", "ChainView", "JoinedView", "WishView"]
/-- of which classes those of a name are: what super() stands in -/
abbrev supOf (cn dn : Str) : Bool := cn == dn || (cn == "LoggedView" && dn == "TableView")
abbrev supAttrs : List Str := ["__init__", "put"]
abbrev viewAttrs : List Str := ["shown", "table", "parts", "value_at", "may", "reachable", "__eq__", "__repr__"]
/-- what is asked of an instance's class -/
structure InsCls (K : Fg) (C : Addr) : Prop where
  cl : Cls K C
  ha : PySem.W.findIn K (.ref C) "__class__" = some (some (.builtin "object.__class__"))
  hn : PySem.W.specialIn K (.builtin "object.__class__") "__get__" = some (some (.builtin "getset_descriptor.__get__"))
  htk : PySem.W.takesIn K (.builtin "object.__class__") = some true
  hm : PySem.W.mroIn K C (.type "object") = some true
  na : ∀ f, fldNames.contains f = true → NoAttr K C f
  kd : ∀ T, insTs.contains T = true → PySem.W.kitOne K (.ref C) (.type T) = some false
/-- the class of that name -/
structure ClsOf (K : Fg) (cn : Str) (C : Addr) : Prop where
  nm : PySem.W.nsIn K mainGlobals cn = some (some (.ref C))
  ic : InsCls K C
  inh : viewNames.contains cn = true → ∀ V, PySem.W.nsIn K mainGlobals "View" = some (some (.ref V)) → ∀ f, viewAttrs.contains f = true → PySem.W.findIn K (.ref C) f = PySem.W.findIn K (.ref V) f
  sup : ∀ dn D, supOf cn dn = true → PySem.W.nsIn K mainGlobals dn = some (some (.ref D)) → PySem.W.mroIn K C (.ref D) = some true ∧ ∀ m, supAttrs.contains m = true → PySem.W.ks_superIn K C D m = PySem.W.ks_superIn K D D m
  inhP : viewNames.contains cn = true → cn ≠ "LoggedView" → ∀ V, PySem.W.nsIn K mainGlobals "View" = some (some (.ref V)) → PySem.W.findIn K (.ref C) "put" = PySem.W.findIn K (.ref V) "put"
/-- a tuple at a, of which it is known that it has no names of its own -/
def SqM (K : Fg) (H : Hp) (a : Addr) (xs : List V) : Prop :=
  (∃ o : Obj, o.dict = none ∧ H a = some (.frz o (.tup xs))) ∨
  ∃ (o : Obj) (its : Array Value) (n : Nat), o.dict = none ∧ K.lookup a = some o ∧ (o.cls = .type "tuple" ∧ o.data = .seq its n) ∧ its.size ≤ sizeLine ∧ Vals xs its.toList
theorem SqM.sq {K : Fg} {H : Hp} {a : Addr} {xs : List V} : SqM K H a xs → SqT K H a xs
  | .inl ⟨o, _, h⟩ => .inl (.inr ⟨o, h⟩)
  | .inr ⟨o, its, n, _, h1, ⟨h2, h3⟩, h4, h5⟩ => .inr ⟨o, its, n, h1, h2, h3, h4, h5⟩
/-- a dict's data, not an instance's -/
def realD : List (D × D) → Bool
  | (.none, _) :: _ => false
  | _ => true
mutual
/-- a value stands for data, over what is frozen -/
inductive Rp (K : Fg) (F : Hp) : V → D → Prop
  | non : Rp K F .non .none
  | bl (b : Bool) : Rp K F (.bl b) (.bool b)
  | int (i : Int) : Rp K F (.int i) (.int i)
  | str (x : Str) : Rp K F (.str x) (.str x)
  | lst {a : Addr} {xs : List V} {ds : List D} : Rd F a (.lst xs) → RpL K F xs ds → Rp K F (.ref a) (.list ds)
  | tup {a : Addr} {xs : List V} {ds : List D} : SqM K F a xs → RpL K F xs ds → Rp K F (.ref a) (.tuple ds)
  | dct {a : Addr} {o : Obj} {kvs : List (L2.Key × V)} {ps : List (D × D)} : F a = some (.frz o (.dK kvs)) → RpK K F kvs ps → Rp K F (.ref a) (.dict ps)
  | ins {a C dx : Addr} {cn : Str} {fs : List (Str × V)} {ps : List (D × D)} : F a = some (.ins C dx fs) → ClsOf K cn C ∧ (fs.all fun p => fldNames.contains p.1) = true → RpK K F (fs.map fun p => (Sum.inr p.1, p.2)) ps → Rp K F (.ref a) (insD cn ps)
inductive RpL (K : Fg) (F : Hp) : List V → List D → Prop
  | nil : RpL K F [] []
  | cons {v : V} {vs : List V} {d : D} {ds : List D} : Rp K F v d → RpL K F vs ds → RpL K F (v :: vs) (d :: ds)
inductive RpK (K : Fg) (F : Hp) : List (L2.Key × V) → List (D × D) → Prop
  | nil : RpK K F [] []
  | cons {k : L2.Key} {v : V} {kvs : List (L2.Key × V)} {d : D} {ps : List (D × D)} : Rp K F v d → RpK K F kvs ps → RpK K F ((k, v) :: kvs) ((keyD k, d) :: ps)
end
theorem rpK_real {K : Fg} {F : Hp} {kvs : List (L2.Key × V)} {ps : List (D × D)} (r : RpK K F kvs ps) : realD ps = true := by
  cases r with
  | nil => rfl
  | cons h t => rename_i k _ _ _ _; cases k <;> rfl
theorem sqM_same {K : Fg} {H H' : Hp} {a : Addr} {xs : List V} (e : Same H H') : SqM K H a xs → SqM K H' a xs
  | .inl ⟨o, d, h⟩ => .inl ⟨o, d, e _ _ h⟩
  | .inr h => .inr h
theorem sqT_same {K : Fg} {H H' : Hp} {a : Addr} {xs : List V} (e : Same H H') (h : SqT K H a xs) : SqT K H' a xs := by
  rcases h with (h | ⟨o, h⟩) | h
  · exact .inl (.inl (e _ _ h))
  · exact .inl (.inr ⟨o, e _ _ h⟩)
  · exact .inr h
theorem rd_same {H H' : Hp} {a : Addr} {o : HO} (e : Same H H') (h : Rd H a o) : Rd H' a o := by
  rcases h with h | ⟨u, h⟩
  · exact .inl (e _ _ h)
  · exact .inr ⟨u, e _ _ h⟩
mutual
theorem Rp.up {K : Fg} {F F' : Hp} (e : Same F F') : ∀ {v : V} {d : D}, Rp K F v d → Rp K F' v d
  | _, _, .non => .non
  | _, _, .bl b => .bl b
  | _, _, .int i => .int i
  | _, _, .str x => .str x
  | _, _, .lst h r => .lst (rd_same e h) (RpL.up e r)
  | _, _, .tup h r => .tup (sqM_same e h) (RpL.up e r)
  | _, _, .dct h r => .dct (e _ _ h) (RpK.up e r)
  | _, _, .ins h c r => .ins (e _ _ h) c (RpK.up e r)
theorem RpL.up {K : Fg} {F F' : Hp} (e : Same F F') : ∀ {vs : List V} {ds : List D}, RpL K F vs ds → RpL K F' vs ds
  | _, _, .nil => .nil
  | _, _, .cons h r => .cons (Rp.up e h) (RpL.up e r)
theorem RpK.up {K : Fg} {F F' : Hp} (e : Same F F') : ∀ {vs : List (L2.Key × V)} {ds : List (D × D)}, RpK K F vs ds → RpK K F' vs ds
  | _, _, .nil => .nil
  | _, _, .cons h r => .cons (Rp.up e h) (RpK.up e r)
end
section
variable {K : Fg} {F : Hp}
theorem RpL.len : ∀ {xs : List V} {ds : List D}, RpL K F xs ds → xs.length = ds.length
  | _, _, .nil => rfl
  | _, _, .cons _ r => by rw [List.length_cons, List.length_cons, r.len]
theorem RpL.get : ∀ {xs : List V} {ds : List D} {i : Nat} {d : D}, RpL K F xs ds → ds[i]? = some d → ∃ v, xs[i]? = some v ∧ Rp K F v d
  | _, _, _, _, .nil, h => by simp at h
  | _, _, 0, _, .cons a _, h => by
    simp at h
    subst h
    exact ⟨_, rfl, a⟩
  | _, _, i + 1, _, .cons _ r, h => by
    obtain ⟨v, e, q⟩ := r.get (i := i) (by simpa using h)
    exact ⟨v, by simpa using e, q⟩
theorem RpL.gets : ∀ {xs : List V} {ds : List D} {i : Nat} {v : V}, RpL K F xs ds → xs[i]? = some v → ∃ d, ds[i]? = some d ∧ Rp K F v d
  | _, _, _, _, .nil, h => by simp at h
  | _, _, 0, _, .cons a _, h => by
    simp at h
    subst h
    exact ⟨_, rfl, a⟩
  | _, _, i + 1, _, .cons _ r, h => by
    obtain ⟨v, e, q⟩ := r.gets (i := i) (by simpa using h)
    exact ⟨v, by simpa using e, q⟩
theorem RpL.app : ∀ {xs ys : List V} {ds es : List D}, RpL K F xs ds → RpL K F ys es → RpL K F (xs ++ ys) (ds ++ es)
  | _, _, _, _, .nil, h => h
  | _, _, _, _, .cons a r, h => .cons a (r.app h)
theorem RpL.one {x : V} {d : D} (h : Rp K F x d) : RpL K F [x] [d] := .cons h .nil
theorem RpL.set : ∀ {xs : List V} {ds : List D} (i : Nat) {x : V} {d : D}, Rp K F x d → RpL K F xs ds → RpL K F (xs.set i x) (ds.set i d)
  | _, _, _, _, _, _, .nil => .nil
  | _, _, 0, _, _, h, .cons _ r => .cons h r
  | _, _, i + 1, _, _, h, .cons a r => .cons a (r.set i h)
theorem RpL.take : ∀ {xs : List V} {ds : List D} (n : Nat), RpL K F xs ds → RpL K F (xs.take n) (ds.take n)
  | _, _, 0, _ => .nil
  | _, _, _ + 1, .nil => .nil
  | _, _, n + 1, .cons a r => .cons a (r.take n)
theorem RpL.drop : ∀ {xs : List V} {ds : List D} (n : Nat), RpL K F xs ds → RpL K F (xs.drop n) (ds.drop n)
  | _, _, 0, r => r
  | _, _, _ + 1, .nil => .nil
  | _, _, n + 1, .cons _ r => r.drop n
theorem RpL.erase : ∀ {xs : List V} {ds : List D} (n : Nat), RpL K F xs ds → RpL K F (xs.eraseIdx n) (ds.eraseIdx n)
  | _, _, _, .nil => .nil
  | _, _, 0, .cons a r => r
  | _, _, n + 1, .cons a r => .cons a (r.erase n)
theorem RpL.rev : ∀ {xs : List V} {ds : List D}, RpL K F xs ds → RpL K F xs.reverse ds.reverse
  | _, _, .nil => .nil
  | _, _, .cons a r => by
    rw [List.reverse_cons, List.reverse_cons]
    exact r.rev.app (.one a)
end
inductive Out (α : Type) where
  | ok (a : α) (ρ : Ev)
  | err (c : Str) (ρ : Ev)
  | bad
def Out.bind {α β : Type} (o : Out α) (f : α → Ev → Out β) : Out β := match o with
  | .ok a ρ => f a ρ
  | .err c ρ => .err c ρ
  | .bad => .bad
def Sat {α : Type} (o : Out α) (k : α → Ev → Prop) (e : Str → Ev → Prop) : Prop := match o with
  | .ok a ρ => k a ρ
  | .err c ρ => e c ρ
  | .bad => False
theorem Sat.bind {α β : Type} {o : Out α} {f : α → Ev → Out β} {k : β → Ev → Prop} {e : Str → Ev → Prop} (h : Sat (o.bind f) k e) : Sat o (fun a ρ => Sat (f a ρ) k e) e := by
  cases o with
  | ok a ρ => exact h
  | err c ρ => exact h
  | bad => exact h
theorem Sat.mono {α : Type} {o : Out α} {k k' : α → Ev → Prop} {e e' : Str → Ev → Prop} (h : Sat o k e) (hk : ∀ a ρ, k a ρ → k' a ρ) (he : ∀ c ρ, e c ρ → e' c ρ) : Sat o k' e' := by
  cases o with
  | ok a ρ => exact hk a ρ h
  | err c ρ => exact he c ρ h
  | bad => exact h
def Out.of {α : Type} (x : Option α) (ρ : Ev) : Out α := match x with
  | some a => .ok a ρ
  | none => .bad
/-- the slots' kinds: 0 shared, 1 a list of one's own, 2 one's own list of such lists, 3 another name of an inner list (al: of which slot's) -/
structure Sg where
  ks : List Nat
  np : Nat
  as : List (Option Nat) := []
  T : List NdefX.NTab := []
abbrev knd (S : Sg) (i : Nat) : Nat := S.ks.getD i 0
abbrev own (S : Sg) (i : Nat) : Bool := knd S i == 1 || knd S i == 2 || knd S i == 5 || knd S i == 6 || knd S i == 7
abbrev deep (S : Sg) (i : Nat) : Bool := knd S i == 2
abbrev ali (S : Sg) (i : Nat) : Option Nat := S.as.getD i none
theorem own_of0 {S : Sg} {i : Nat} (k : knd S i = 0) : own S i = false := by unfold own; rw [k]; rfl
theorem own_of1 {S : Sg} {i : Nat} (k : knd S i = 1) : own S i = true := by unfold own; rw [k]; rfl
theorem own_of2 {S : Sg} {i : Nat} (k : knd S i = 2) : own S i = true := by unfold own; rw [k]; rfl
theorem own_of7 {S : Sg} {i : Nat} (k : knd S i = 7) : own S i = true := by unfold own; rw [k]; rfl
theorem deep_of7 {S : Sg} {i : Nat} (k : knd S i = 7) : deep S i = false := by unfold deep; rw [k]; rfl
theorem own_cases {S : Sg} {i : Nat} (k : own S i = true) : knd S i = 1 ∨ knd S i = 2 ∨ knd S i = 5 ∨ knd S i = 6 ∨ knd S i = 7 := by
  simp only [own, Bool.or_eq_true, beq_iff_eq] at k
  omega
theorem own_of3 {S : Sg} {i : Nat} (k : knd S i = 3) : own S i = false := by unfold own; rw [k]; rfl
theorem deep_of1 {S : Sg} {i : Nat} (k : knd S i = 1) : deep S i = false := by unfold deep; rw [k]; rfl
theorem deep_of2 {S : Sg} {i : Nat} (k : knd S i = 2) : deep S i = true := by unfold deep; rw [k]; rfl
theorem deep_knd {S : Sg} {i : Nat} (k : deep S i = true) : knd S i = 2 := by simpa [deep] using k
/-- neither a table of code objects nor a code object -/
def Soft (o : HO) : Prop := (∀ ps, o ≠ .tbl ps) ∧ ∀ c q, o ≠ LamX.CodeO c q
theorem soft_lst {xs : List V} : Soft (.lst xs) := ⟨nofun, nofun⟩
theorem soft_dK {kvs : List (L2.Key × V)} : Soft (.dK kvs) := ⟨nofun, nofun⟩
theorem soft_frz {o : Obj} {x : HO} : Soft (.frz o x) := ⟨nofun, nofun⟩
theorem soft_ext {f : Heap → Prop} {a : Addr} (hf : ∀ h, f h → ∃ o es ep t, h.get? a = some o ∧ o.data = Data.set es ep t) : Soft (.ext f) := by
  refine ⟨nofun, fun c q z => ?_⟩
  have z : HO.ext f = HO.ext _ := z
  injection z with z
  let o0 : Obj := { cls := .none, data := .fields #[.none, .str q 0] }
  let h0 : Heap := { objs := Array.replicate (c + 1) o0 }
  have at0 : ∀ b, h0.get? b = if b < c + 1 then some o0 else none := fun b => by
    show (match (Array.replicate (c + 1) o0)[b]? with
      | some { cls := _, dict := _, data := Data.freed, slots := _ } => none
      | o => o) = _
    by_cases hb : b < c + 1
    · rw [Array.getElem?_replicate, if_pos hb]
    · rw [Array.getElem?_replicate, if_neg hb]
  have g : f h0 := by
    rw [z]
    refine ⟨o0, #[.none, .str q 0], 0, ?_, rfl, rfl⟩
    rw [at0, if_pos (Nat.lt_succ_self c)]
  obtain ⟨o, es, ep, t, e1, e2⟩ := hf h0 g
  rw [at0] at e1
  split at e1
  · injection e1 with e1
    rw [← e1] at e2
    cases e2
  · cases e1
theorem tabs_keep {T : List NdefX.NTab} {H H' : Hp} (h : NdefX.TabsN T H) (k : ∀ b o, H b = some o → ¬ Soft o → H' b = some o) : NdefX.TabsN T H' := fun p hp => by
  obtain ⟨ps, e1, e2, e3⟩ := h p hp
  refine ⟨ps, k _ _ e1 fun z => z.1 ps rfl, e2, fun pos cv e => ?_⟩
  obtain ⟨c, e4, e5⟩ := e3 pos cv e
  exact ⟨c, e4, k _ _ e5 fun z => z.2 _ _ rfl⟩
theorem tabs_upd {T : List NdefX.NTab} {H : Hp} {p : Addr} {o : HO} (h : NdefX.TabsN T H) (k : ∀ o0, H p = some o0 → Soft o0) : NdefX.TabsN T (upd H p o) := tabs_keep h fun b o0 e n => by
  have : b ≠ p := fun z => n (k o0 (by rw [← z]; exact e))
  rw [upd_ne this]; exact e
theorem tabs_at {T : List NdefX.NTab} {H : Hp} (h : NdefX.TabsN T H) {p : NdefX.NTab} (hp : p ∈ T) : ∃ ps, H p.1 = some (.tbl ps) := let ⟨ps, e, _⟩ := h p hp; ⟨ps, e⟩
theorem tabs_ne {T : List NdefX.NTab} {H : Hp} (h : NdefX.TabsN T H) {p : NdefX.NTab} (hp : p ∈ T) {b : Addr} {o : HO} (e : H b = some o) (so : Soft o) : p.1 ≠ b := fun z => by
  obtain ⟨ps, e2⟩ := tabs_at h hp
  rw [z, e] at e2
  exact so.1 ps (Option.some.inj e2)
structure Base where
  O : Addr → Prop
  M : Addr → Prop
  F : Hp
  H : Hp
  σ : Sts
  T : List NdefX.NTab
structure Ext (B : Base) (F H : Hp) : Prop where
  fs : Same B.F F
  hs : ∀ b o, B.H b = some o → ¬ B.O b → H b = some o
  st : ∀ b, H b = none → B.H b = none
  fr : ∀ b o, F b = some o → B.F b = some o ∨ B.H b = none ∨ B.M b
  tb : NdefX.TabsN B.T H
  to : ∀ p ∈ B.T, B.O p.1
  tf : ∀ p ∈ B.T, F p.1 = none
/-- a list that is one's own -/
def OwL (K : Fg) (F H : Hp) (a : Addr) (d : D) : Prop := ∃ xs ds, d = .list ds ∧ F a = none ∧ H a = some (.lst xs) ∧ RpL K F xs ds
/-- a dict that is one's own -/
def OwD (K : Fg) (F H : Hp) (a : Addr) (d : D) : Prop := ∃ kvs ps, d = .dict ps ∧ F a = none ∧ H a = some (.dK kvs) ∧ RpK K F kvs ps
/-- what a dict holds whose keys are tuples of ints -/
inductive RpT (K : Fg) (F : Hp) : List (List Int × V) → List (List Int × D) → Prop
  | nil : RpT K F [] []
  | cons {k : List Int} {v : V} {kvs : List (List Int × V)} {d : D} {ps : List (List Int × D)} : Rp K F v d → RpT K F kvs ps → RpT K F ((k, v) :: kvs) ((k, d) :: ps)
theorem RpT.up {K : Fg} {F F' : Hp} (e : Same F F') : ∀ {kvs : List (List Int × V)} {ps : List (List Int × D)}, RpT K F kvs ps → RpT K F' kvs ps
  | _, _, .nil => .nil
  | _, _, .cons h r => .cons (h.up e) (r.up e)
def encV (kvs : List (List Int × V)) : List (List L2.Key × V) := kvs.map fun p => (p.1.map Sum.inl, p.2)
def encT (ps : List (List Int × D)) : List (D × D) := ps.map fun p => (.tuple (p.1.map .int), p.2)
/-- an object of other kinds, by the data that it stands for -/
inductive RpO (K : Fg) (F : Hp) : HO → D → Prop
  | dT {kvs : List (List Int × V)} {ps : List (List Int × D)} : RpT K F kvs ps → RpO K F (.dT (encV kvs)) (.dict (encT ps))
theorem RpO.up {K : Fg} {F F' : Hp} (e : Same F F') : ∀ {o : HO} {d : D}, RpO K F o d → RpO K F' o d
  | _, _, .dT h => .dT (h.up e)
def OwG (K : Fg) (F H : Hp) (a : Addr) (d : D) : Prop := ∃ o, H a = some o ∧ F a = none ∧ Soft o ∧ RpO K F o d
theorem OwG.up {K : Fg} {F F' H H' : Hp} {a : Addr} {d : D} (h : OwG K F H a d) (e : Same F F') (hF : F' a = none) (hH : ∀ o, H a = some o → H' a = some o) : OwG K F' H' a d := by
  obtain ⟨o, e1, e2, e3, e4⟩ := h
  exact ⟨o, hH _ e1, hF, e3, e4.up e⟩
/-- an instance that is one's own -/
def OwI (K : Fg) (F H : Hp) (a : Addr) (d : D) : Prop := ∃ C dx cn fs ps, H a = some (.ins C dx fs) ∧ F a = none ∧ (ClsOf K cn C ∧ (fs.all fun p => fldNames.contains p.1) = true) ∧ RpK K F (fs.map fun p => (Sum.inr p.1, p.2)) ps ∧ d = insD cn ps
theorem OwI.up {K : Fg} {F F' H H' : Hp} {a : Addr} {d : D} (h : OwI K F H a d) (e : Same F F') (hF : F' a = none) (hH : ∀ o, H a = some o → H' a = some o) : OwI K F' H' a d := by
  obtain ⟨C, dx, cn, fs, ps, e1, e2, e3, e4, e5⟩ := h
  exact ⟨C, dx, cn, fs, ps, hH _ e1, hF, e3, e4.up e, e5⟩
theorem soft_ins {C dx : Addr} {fs : List (Str × V)} : Soft (.ins C dx fs) := ⟨nofun, nofun⟩
inductive OwLs (K : Fg) (F H : Hp) : List Addr → List D → Prop
  | nil : OwLs K F H [] []
  | cons {b : Addr} {d : D} {bs : List Addr} {ds : List D} : OwL K F H b d → OwLs K F H bs ds → OwLs K F H (b :: bs) (d :: ds)
/-- .. or a list of such lists, at bs -/
def OwX (K : Fg) (F H : Hp) (k : Nat) (a : Addr) (bs : List Addr) (d : D) : Prop := (a :: bs).Nodup ∧ match k with
  | 2 => ∃ ds, d = .list ds ∧ F a = none ∧ H a = some (.lst (bs.map V.ref)) ∧ OwLs K F H bs ds
  | 5 => bs = [] ∧ OwD K F H a d
  | 6 => bs = [] ∧ OwG K F H a d
  | 7 => bs = [] ∧ OwI K F H a d
  | _ => bs = [] ∧ OwL K F H a d
def Inn (H : Hp) (a b : Addr) : Prop := ∃ xs, H a = some (.lst xs) ∧ V.ref b ∈ xs
/-- slot i holds what stands at b -/
def Held (S : Sg) (σ : Sts) (H : Hp) (ρ : Ev) (i : Nat) (b : Addr) : Prop := own S i = true ∧ (∃ d, ρ[i]? = some (some d)) ∧ ∃ a, σ[i]? = some (some (.ref a)) ∧ (b = a ∨ (deep S i = true ∧ Inn H a b))
abbrev Dom (S : Sg) (B : Base) (i : Nat) (b : Addr) : Prop := (B.O b ∧ (S.np ≤ i → B.M b)) ∨ B.H b = none
structure SInv (K : Fg) (S : Sg) (B : Base) (σ : Sts) (F H : Hp) (ρ : Ev) : Prop where
  len : ρ.length = σ.length
  same : Same F H
  ext : Ext B F H
  sh : ∀ (i : Nat) d, ρ[i]? = some (some d) → knd S i = 0 → ∃ v, σ[i]? = some (some v) ∧ Rp K F v d
  ow : ∀ (i : Nat) d, ρ[i]? = some (some d) → own S i = true → ∃ a bs, σ[i]? = some (some (.ref a)) ∧ OwX K F H (knd S i) a bs d ∧ ∀ b, b ∈ a :: bs → Dom S B i b
  nd : ∀ i j b, Held S σ H ρ i b → Held S σ H ρ j b → i = j
  al : ∀ (i : Nat) d, ρ[i]? = some (some d) → knd S i = 3 → ∃ (j : Nat) (k : Nat) (a b : Addr) (xs : List V) (d' : D), ali S i = some j ∧ deep S j = true ∧ d = .int (k : Nat) ∧ ρ[j]? = some (some d') ∧ σ[j]? = some (some (.ref a)) ∧ H a = some (.lst xs) ∧ xs[k]? = some (.ref b) ∧ σ[i]? = some (some (.ref b))
  pin : ∀ (i : Nat), i < S.np → own S i = true → σ[i]? = B.σ[i]?
  ts : B.T = S.T
theorem same_upd {H : Hp} {p : Addr} {o : HO} (h : H p = none) : Same H (upd H p o) := fun b x e => by
  rw [upd_ne (ne_of_none e h)]
  exact e
theorem same_upd2 {F H : Hp} {p : Addr} {o : HO} (e : Same F H) : Same (upd F p o) (upd H p o) := fun b x q => by
  by_cases hb : b = p
  · subst hb
    rw [upd_same] at q ⊢
    exact q
  · rw [upd_ne hb] at q ⊢
    exact e _ _ q
theorem same_upd_out {F H : Hp} {p : Addr} {o : HO} (e : Same F H) (h : F p = none) : Same F (upd H p o) := fun b x q => by
  rw [upd_ne (ne_of_none q h)]
  exact e _ _ q
section
variable {K : Fg} {S : Sg} {B : Base} {σ : Sts} {F H F' H' : Hp} {ρ : Ev}
theorem OwL.isSome {a : Addr} {d : D} (h : OwL K F H a d) : H a ≠ none := fun z => by
  obtain ⟨xs, ds, _, _, e, _⟩ := h
  rw [z] at e; cases e
theorem OwL.up {a : Addr} {d : D} (h : OwL K F H a d) (e : Same F F') (hF : F' a = none) (hH : ∀ o, H a = some o → H' a = some o) : OwL K F' H' a d := by
  obtain ⟨xs, ds, e1, e2, e3, e4⟩ := h
  exact ⟨xs, ds, e1, hF, hH _ e3, e4.up e⟩
theorem OwD.up {a : Addr} {d : D} (h : OwD K F H a d) (e : Same F F') (hF : F' a = none) (hH : ∀ o, H a = some o → H' a = some o) : OwD K F' H' a d := by
  obtain ⟨xs, ds, e1, e2, e3, e4⟩ := h
  exact ⟨xs, ds, e1, hF, hH _ e3, e4.up e⟩
theorem OwLs.len : ∀ {bs : List Addr} {ds : List D}, OwLs K F H bs ds → bs.length = ds.length
  | _, _, .nil => rfl
  | _, _, .cons _ r => by rw [List.length_cons, List.length_cons, r.len]
theorem OwLs.up (e : Same F F') : ∀ {bs : List Addr} {ds : List D}, OwLs K F H bs ds → (∀ b, b ∈ bs → F' b = none ∧ ∀ o, H b = some o → H' b = some o) → OwLs K F' H' bs ds
  | _, _, .nil, _ => .nil
  | _, _, .cons h r, k => .cons (h.up e (k _ List.mem_cons_self).1 (k _ List.mem_cons_self).2) (r.up e fun b hb => k b (List.mem_cons_of_mem _ hb))
theorem OwLs.get : ∀ {bs : List Addr} {ds : List D} {k : Nat} {d : D}, OwLs K F H bs ds → ds[k]? = some d → ∃ b, bs[k]? = some b ∧ OwL K F H b d
  | _, _, _, _, .nil, e => by simp at e
  | _, _, 0, _, .cons h _, e => by
    simp at e
    subst e
    exact ⟨_, rfl, h⟩
  | _, _, k + 1, _, .cons _ r, e => by
    obtain ⟨b, e1, w⟩ := r.get (k := k) (by simpa using e)
    exact ⟨b, by simpa using e1, w⟩
theorem OwLs.gets : ∀ {bs : List Addr} {ds : List D} {k : Nat} {b : Addr}, OwLs K F H bs ds → bs[k]? = some b → ∃ d, ds[k]? = some d ∧ OwL K F H b d
  | _, _, _, _, .nil, e => by simp at e
  | _, _, 0, _, .cons h _, e => by
    simp at e
    subst e
    exact ⟨_, rfl, h⟩
  | _, _, k + 1, _, .cons _ r, e => by
    obtain ⟨b, e1, w⟩ := r.gets (k := k) (by simpa using e)
    exact ⟨b, by simpa using e1, w⟩
theorem OwX.at {dp : Nat} {a : Addr} {bs : List Addr} {d : D} (h : OwX K F H dp a bs d) : ∀ b, b ∈ a :: bs → F b = none ∧ H b ≠ none := fun b hb => by
  obtain ⟨_, h⟩ := h
  split at h
  rotate_left
  · obtain ⟨rfl, xs, ds, _, e, e', _⟩ := h
    have : b = a := by simpa using hb
    subst this
    exact ⟨e, by rw [e']; simp⟩
  · obtain ⟨rfl, o, e', e, _⟩ := h
    have : b = a := by simpa using hb
    subst this
    exact ⟨e, by rw [e']; simp⟩
  · obtain ⟨rfl, _, _, _, _, _, e', e, _⟩ := h
    have : b = a := by simpa using hb
    subst this
    exact ⟨e, by rw [e']; simp⟩
  · obtain ⟨rfl, xs, ds, _, e, e', _⟩ := h
    have : b = a := by simpa using hb
    subst this
    exact ⟨e, by rw [e']; simp⟩
  · obtain ⟨ds, _, e, e', r⟩ := h
    rcases List.mem_cons.mp hb with z | z
    · subst z
      exact ⟨e, by rw [e']; simp⟩
    · obtain ⟨k, hk⟩ := List.mem_iff_getElem?.mp z
      obtain ⟨d', _, xs, ds', _, f, f', _⟩ := r.gets hk
      exact ⟨f, by rw [f']; simp⟩
theorem OwX.up {dp : Nat} {a : Addr} {bs : List Addr} {d : D} (h : OwX K F H dp a bs d) (e : Same F F') (k : ∀ b, b ∈ a :: bs → F' b = none ∧ ∀ o, H b = some o → H' b = some o) : OwX K F' H' dp a bs d := by
  refine ⟨h.1, ?_⟩
  have h2 := h.2
  split at h2
  rotate_left
  · obtain ⟨rfl, w⟩ := h2
    exact ⟨rfl, w.up e (k a List.mem_cons_self).1 (k a List.mem_cons_self).2⟩
  · obtain ⟨rfl, w⟩ := h2
    exact ⟨rfl, w.up e (k a List.mem_cons_self).1 (k a List.mem_cons_self).2⟩
  · obtain ⟨rfl, w⟩ := h2
    exact ⟨rfl, w.up e (k a List.mem_cons_self).1 (k a List.mem_cons_self).2⟩
  · rename_i n1 n2
    obtain ⟨rfl, w⟩ := h2
    exact ⟨rfl, w.up e (k a List.mem_cons_self).1 (k a List.mem_cons_self).2⟩
  · obtain ⟨ds, e1, _, e3, r⟩ := h2
    exact ⟨ds, e1, (k a List.mem_cons_self).1, (k a List.mem_cons_self).2 _ e3, r.up e fun b hb => k b (List.mem_cons_of_mem _ hb)⟩
/-- what a slot holds is what stands in its footprint -/
theorem OwX.held {i : Nat} {a : Addr} {bs : List Addr} {d : D} (w : OwX K F H (knd S i) a bs d) (k : own S i = true) (e : ρ[i]? = some (some d)) (ea : σ[i]? = some (some (.ref a))) (b : Addr) : Held S σ H ρ i b ↔ b ∈ a :: bs := by
  constructor
  · rintro ⟨_, _, a', e1, h⟩
    rw [ea] at e1
    cases e1
    rcases h with rfl | ⟨dp, xs, e2, m⟩
    · exact List.mem_cons_self
    · have w2 := w.2
      rw [deep_knd dp] at w2
      obtain ⟨ds, _, _, e3, _⟩ := w2
      rw [e2] at e3
      cases e3
      obtain ⟨b', hb', z⟩ := List.mem_map.mp m
      cases z
      exact List.mem_cons_of_mem _ hb'
  · intro hb
    refine ⟨k, ⟨d, e⟩, a, ea, ?_⟩
    rcases List.mem_cons.mp hb with z | z
    · exact .inl z
    · right
      have w2 := w.2
      rcases own_cases k with dp | dp | dp | dp | dp
      · rw [dp] at w2
        obtain ⟨rfl, _⟩ := w2
        cases z
      · rw [dp] at w2
        obtain ⟨ds, _, _, e3, _⟩ := w2
        exact ⟨deep_of2 dp, _, e3, List.mem_map.mpr ⟨b, z, rfl⟩⟩
      · rw [dp] at w2
        obtain ⟨rfl, _⟩ := w2
        cases z
      · rw [dp] at w2
        obtain ⟨rfl, _⟩ := w2
        cases z
      · rw [dp] at w2
        obtain ⟨rfl, _⟩ := w2
        cases z
theorem SInv.bnone (I : SInv K S B σ F H ρ) {p : Addr} (h : H p = none) : B.H p = none := I.ext.st p h
theorem SInv.heldAt (I : SInv K S B σ F H ρ) {i : Nat} {b : Addr} (h : Held S σ H ρ i b) : F b = none ∧ H b ≠ none ∧ Dom S B i b := by
  obtain ⟨k, ⟨d, e⟩, a, ea, _⟩ := id h
  obtain ⟨a', bs, e1, w, o⟩ := I.ow i d e k
  have hb := (w.held (S := S) k e e1 b).mp h
  exact ⟨(w.at b hb).1, (w.at b hb).2, o b hb⟩
theorem OwX.soft {dp : Nat} {a : Addr} {bs : List Addr} {d : D} (h : OwX K F H dp a bs d) : ∀ b, b ∈ a :: bs → ∀ o, H b = some o → Soft o := fun b hb o ho => by
  obtain ⟨_, h⟩ := h
  split at h
  rotate_left
  · obtain ⟨rfl, xs, ds, _, e, e', _⟩ := h
    have : b = a := by simpa using hb
    subst this
    rw [e'] at ho; cases ho; exact soft_dK
  · obtain ⟨rfl, o', e', e, so, _⟩ := h
    have : b = a := by simpa using hb
    subst this
    rw [e'] at ho; cases ho; exact so
  · obtain ⟨rfl, _, _, _, _, _, e', e, _⟩ := h
    have : b = a := by simpa using hb
    subst this
    rw [e'] at ho; cases ho; exact soft_ins
  · obtain ⟨rfl, xs, ds, _, e, e', _⟩ := h
    have : b = a := by simpa using hb
    subst this
    rw [e'] at ho; cases ho; exact soft_lst
  · obtain ⟨ds, _, e, e', r⟩ := h
    rcases List.mem_cons.mp hb with z | z
    · subst z
      rw [e'] at ho; cases ho; exact soft_lst
    · obtain ⟨k, hk⟩ := List.mem_iff_getElem?.mp z
      obtain ⟨d', _, xs, ds', _, f, f', _⟩ := r.gets hk
      rw [f'] at ho; cases ho; exact soft_lst
theorem SInv.heldSoft (I : SInv K S B σ F H ρ) {i : Nat} {b : Addr} (h : Held S σ H ρ i b) : ∀ o, H b = some o → Soft o := by
  obtain ⟨k, ⟨d, e⟩, a, ea, _⟩ := id h
  obtain ⟨a', bs, e1, w, o⟩ := I.ow i d e k
  exact w.soft b ((w.held (S := S) k e e1 b).mp h)
theorem SInv.tab (I : SInv K S B σ F H ρ) : NdefX.TabsN B.T H := I.ext.tb
theorem SInv.heldSome (I : SInv K S B σ F H ρ) {i : Nat} {b : Addr} (h : Held S σ H ρ i b) : H b ≠ none := (I.heldAt h).2.1
theorem SInv.heldNe (I : SInv K S B σ F H ρ) {p : Addr} (h : H p = none) : ∀ i a, Held S σ H ρ i a → a ≠ p := fun i a q z => by
  subst z
  exact I.heldSome q h
/-- the heap of what is held stays: so does what is held -/
theorem held_same {σ : Sts} {H H' : Hp} {ρ : Ev} {i : Nat} {b : Addr} (k : ∀ a, σ[i]? = some (some (.ref a)) → H' a = H a) (h : Held S σ H' ρ i b) : Held S σ H ρ i b := by
  obtain ⟨h1, h2, a, e, h3⟩ := h
  refine ⟨h1, h2, a, e, ?_⟩
  rcases h3 with z | ⟨dp, xs, e1, m⟩
  · exact .inl z
  · exact .inr ⟨dp, xs, by rw [← k a e]; exact e1, m⟩
theorem SInv.topHeld (I : SInv K S B σ F H ρ) {i : Nat} (k : own S i = true) (s : ∃ d, ρ[i]? = some (some d)) {a : Addr} (e : σ[i]? = some (some (.ref a))) : Held S σ H ρ i a := ⟨k, s, a, e, .inl rfl⟩
/-- both heaps change away from what is held -/
theorem SInv.move (I : SInv K S B σ F H ρ) (s : Same F' H') (x : Ext B F' H') (sF : Same F F') (kF : ∀ i b, Held S σ H ρ i b → F' b = none) (kH : ∀ i b, Held S σ H ρ i b → H' b = H b) : SInv K S B σ F' H' ρ := by
  have held : ∀ {i b}, Held S σ H' ρ i b → Held S σ H ρ i b := fun {i b} h => held_same (fun a e => kH i a (I.topHeld h.1 h.2.1 e)) h
  refine ⟨I.len, s, x, fun i d e k => ?_, fun i d e k => ?_, fun i j b h1 h2 => I.nd i j b (held h1) (held h2), fun i d e k => ?_, I.pin, I.ts⟩
  · obtain ⟨v, e1, r⟩ := I.sh i d e k
    exact ⟨v, e1, r.up sF⟩
  · obtain ⟨a, bs, e1, w, o⟩ := I.ow i d e k
    refine ⟨a, bs, e1, w.up sF fun b hb => ?_, o⟩
    have hh := (w.held (S := S) k e e1 b).mpr hb
    exact ⟨kF i b hh, fun o q => by rw [kH i b hh]; exact q⟩
  · obtain ⟨j, kk, a, b, xs, d', e1, e2, e3, e4, e5, e6, e7, e8⟩ := I.al i d e k
    have hh := I.topHeld (own_of2 (deep_knd e2)) ⟨d', e4⟩ e5
    exact ⟨j, kk, a, b, xs, d', e1, e2, e3, e4, e5, by rw [kH j a hh]; exact e6, e7, e8⟩
/-- a new frozen object -/
theorem SInv.newF (I : SInv K S B σ F H ρ) {p : Addr} {o : HO} (h : H p = none) : SInv K S B σ (upd F p o) (upd H p o) ρ := by
  have hF : F p = none := Same.free I.same h
  have sF : Same F (upd F p o) := same_upd hF
  refine I.move (same_upd2 I.same) ⟨I.ext.fs.trans sF, fun b o' e n => ?_, fun b e => ?_, fun b o' e => ?_, I.ext.tb.ext (same_upd h), I.ext.to, fun q hq => let ⟨ps, e⟩ := tabs_at I.ext.tb hq; by rw [upd_ne fun z => by rw [z, h] at e; cases e]; exact I.ext.tf q hq⟩ sF (fun i b hh => ?_) fun i b hh => ?_
  · exact same_upd h _ _ (I.ext.hs b o' e n)
  · by_cases hb : b = p
    · subst hb; rw [upd_same] at e; cases e
    · rw [upd_ne hb] at e; exact I.ext.st b e
  · by_cases hb : b = p
    · subst hb; exact .inr (.inl (I.bnone h))
    · rw [upd_ne hb] at e; exact I.ext.fr b o' e
  · rw [upd_ne (I.heldNe h i b hh)]; exact (I.heldAt hh).1
  · rw [upd_ne (I.heldNe h i b hh)]
/-- a new object that is held by nobody yet -/
theorem SInv.newH (I : SInv K S B σ F H ρ) {p : Addr} {o : HO} (h : H p = none) : SInv K S B σ F (upd H p o) ρ := by
  have hF : F p = none := Same.free I.same h
  refine I.move (same_upd_out I.same hF) ⟨I.ext.fs, fun b o' e n => ?_, fun b e => ?_, I.ext.fr, I.ext.tb.ext (same_upd h), I.ext.to, I.ext.tf⟩ (Same.refl _) (fun i b hh => (I.heldAt hh).1) fun i b hh => ?_
  · exact same_upd h _ _ (I.ext.hs b o' e n)
  · by_cases hb : b = p
    · subst hb; rw [upd_same] at e; cases e
    · rw [upd_ne hb] at e; exact I.ext.st b e
  · rw [upd_ne (I.heldNe h i b hh)]
/-- an object that nobody holds becomes frozen -/
theorem SInv.freeze (I : SInv K S B σ F H ρ) {p : Addr} {o : HO} (hF : F p = none) (h : H p = some o) (hB : B.H p = none ∨ B.M p) (hn : ∀ i a, Held S σ H ρ i a → a ≠ p) (so : Soft o) : SInv K S B σ (upd F p o) H ρ := by
  have sF : Same F (upd F p o) := same_upd hF
  refine I.move (fun b x e => ?_) ⟨I.ext.fs.trans sF, I.ext.hs, I.ext.st, fun b o' e => ?_, I.ext.tb, I.ext.to, fun q hq => by rw [upd_ne (tabs_ne I.ext.tb hq h so)]; exact I.ext.tf q hq⟩ sF (fun i b hh => ?_) fun i b hh => rfl
  · by_cases hb : b = p
    · subst hb; rw [upd_same] at e; rw [h]; exact e
    · rw [upd_ne hb] at e; exact I.same _ _ e
  · by_cases hb : b = p
    · subst hb; exact .inr hB
    · rw [upd_ne hb] at e; exact I.ext.fr b o' e
  · rw [upd_ne (hn i b hh)]; exact (I.heldAt hh).1
/-- an object that nobody holds, made since the base, is changed -/
theorem SInv.setFree (I : SInv K S B σ F H ρ) {p : Addr} {o : HO} (hF : F p = none) (hB : B.H p = none) (hn : ∀ i a, Held S σ H ρ i a → a ≠ p) (so : ∀ o0, H p = some o0 → Soft o0) : SInv K S B σ F (upd H p o) ρ := by
  refine I.move (same_upd_out I.same hF) ⟨I.ext.fs, fun b o' e n => ?_, fun b e => ?_, I.ext.fr, tabs_upd I.ext.tb so, I.ext.to, I.ext.tf⟩ (Same.refl _) (fun i b hh => (I.heldAt hh).1) fun i b hh => ?_
  · have hb : b ≠ p := fun z => by subst z; rw [hB] at e; cases e
    rw [upd_ne hb]
    exact I.ext.hs b o' e n
  · by_cases hb : b = p
    · subst hb; exact hB
    · rw [upd_ne hb] at e; exact I.ext.st b e
  · rw [upd_ne (hn i b hh)]
/-- what one holds is changed in place, the slot's data with it -/
theorem SInv.chg (I : SInv K S B σ F H ρ) {i : Nat} {p a : Addr} {bs : List Addr} {d d' : D} {o : HO} (e : ρ[i]? = some (some d)) (k : own S i = true) (ea : σ[i]? = some (some (.ref a))) (hp : Held S σ H ρ i p)
    (ha : deep S i = true → p ≠ a) (w' : OwX K F (upd H p o) (knd S i) a bs d') (hb : ∀ b, b ∈ a :: bs → Held S σ H ρ i b) : SInv K S B σ F (upd H p o) (ρ.set i (some d')) := by
  have hil : i < ρ.length := (List.getElem?_eq_some_iff.mp e).1
  obtain ⟨hF, hH, hD⟩ := I.heldAt hp
  have set_ : ∀ (j : Nat), (∃ x, (ρ.set i (some d'))[j]? = some (some x)) → ∃ x, ρ[j]? = some (some x) := fun j ⟨x, h⟩ => by
    by_cases hj : j = i
    · subst hj; exact ⟨d, e⟩
    · rw [List.getElem?_set_ne (Ne.symm hj)] at h; exact ⟨x, h⟩
  have held : ∀ {j b}, Held S σ (upd H p o) (ρ.set i (some d')) j b → Held S σ H ρ j b := fun {j b} ⟨h1, h2, c, ec, h3⟩ => by
    have hc : Held S σ H ρ j c := I.topHeld h1 (set_ j h2) ec
    refine ⟨h1, set_ j h2, c, ec, ?_⟩
    rcases h3 with z | ⟨dp, xs, e1, m⟩
    · exact .inl z
    · refine .inr ⟨dp, xs, ?_, m⟩
      have hcp : c ≠ p := fun z => by
        subst z
        have hj := I.nd j i c hc hp
        subst hj
        rw [ea] at ec
        cases ec
        exact ha dp rfl
      rw [upd_ne hcp] at e1
      exact e1
  refine ⟨by rw [List.length_set]; exact I.len, same_upd_out I.same hF, ⟨I.ext.fs, fun b o' e' n => ?_, fun b e' => ?_, I.ext.fr, tabs_upd I.ext.tb (I.heldSoft hp), I.ext.to, I.ext.tf⟩, fun j x e' k' => ?_, fun j x e' k' => ?_, fun x y b h1 h2 => I.nd x y b (held h1) (held h2), fun j x e' k' => ?_, I.pin, I.ts⟩
  · have hb : b ≠ p := fun z => by
      subst z
      rcases hD with q | q
      · exact n q.1
      · rw [q] at e'; cases e'
    rw [upd_ne hb]
    exact I.ext.hs b o' e' n
  · by_cases hb : b = p
    · subst hb; rw [upd_same] at e'; cases e'
    · rw [upd_ne hb] at e'; exact I.ext.st b e'
  · have hj : j ≠ i := fun z => by subst z; rw [own_of0 k'] at k; cases k
    rw [List.getElem?_set_ne (Ne.symm hj)] at e'
    exact I.sh j x e' k'
  · by_cases hj : j = i
    · subst hj
      rw [List.getElem?_set_self hil] at e'
      cases e'
      exact ⟨a, bs, ea, w', fun b h => (I.heldAt (hb b h)).2.2⟩
    · rw [List.getElem?_set_ne (Ne.symm hj)] at e'
      obtain ⟨c, cs, f1, f2, f3⟩ := I.ow j x e' k'
      refine ⟨c, cs, f1, f2.up (Same.refl _) fun b h => ?_, f3⟩
      have hh := (f2.held (S := S) k' e' f1 b).mpr h
      have hbp : b ≠ p := fun z => by subst z; exact hj (I.nd j i b hh hp)
      exact ⟨(I.heldAt hh).1, fun o q => by rw [upd_ne hbp]; exact q⟩
  · have hj : j ≠ i := fun z => by subst z; rw [own_of3 k'] at k; cases k
    rw [List.getElem?_set_ne (Ne.symm hj)] at e'
    obtain ⟨l, kk, c, b, xs, x', e1, e2, e3, e4, e5, e6, e7, e8⟩ := I.al j x e' k'
    have hcp : c ≠ p := fun z => by
      subst z
      have hl := I.nd l i c (I.topHeld (own_of2 (deep_knd e2)) ⟨x', e4⟩ e5) hp
      subst hl
      rw [ea] at e5
      cases e5
      exact ha e2 rfl
    by_cases hl : l = i
    · subst hl
      exact ⟨l, kk, c, b, xs, d', e1, e2, e3, List.getElem?_set_self hil, e5, by rw [upd_ne hcp]; exact e6, e7, e8⟩
    · exact ⟨l, kk, c, b, xs, x', e1, e2, e3, by rw [List.getElem?_set_ne (Ne.symm hl)]; exact e4, e5, by rw [upd_ne hcp]; exact e6, e7, e8⟩
/-- a new thing becomes frozen for good -/
theorem SInv.freezeO (I : SInv K S B σ F H ρ) {p : Addr} {o o' : HO} (hF : F p = none) (h : H p = some o) (hB : B.H p = none) (hn : ∀ i a, Held S σ H ρ i a → a ≠ p) (so : Soft o) (so' : Soft o') : SInv K S B σ (upd F p o') (upd H p o') ρ :=
  (I.setFree hF hB hn fun o0 e => by rw [h] at e; cases e; exact so).freeze hF upd_same (.inl hB) (fun i a hh => hn i a (held_same (fun c ec => by rw [upd_ne (hn i c ⟨hh.1, hh.2.1, c, ec, .inl rfl⟩)]) hh)) so'
/-- one's own list is changed -/
theorem SInv.mut (I : SInv K S B σ F H ρ) {i : Nat} {a : Addr} {d : D} {xs : List V} {ds : List D} (e : ρ[i]? = some (some d)) (k : knd S i = 1) (ea : σ[i]? = some (some (.ref a))) (r : RpL K F xs ds) :
    SInv K S B σ F (upd H a (.lst xs)) (ρ.set i (some (.list ds))) := by
  have hp := I.topHeld (own_of1 k) ⟨d, e⟩ ea
  refine I.chg (bs := []) e (own_of1 k) ea hp (fun z => by rw [deep_of1 k] at z; cases z) ⟨by simp, ?_⟩ fun b h => ?_
  · rw [k]
    exact ⟨rfl, xs, ds, rfl, (I.heldAt hp).1, upd_same, r⟩
  · have : b = a := by simpa using h
    subst this
    exact hp
/-- a slot gets a frozen value -/
theorem SInv.setSh (I : SInv K S B σ F H ρ) {i : Nat} {v : V} {d : D} (k : knd S i = 0) (r : Rp K F v d) : SInv K S B (σ.set i (some v)) F H (ρ.set i (some d)) := by
  have ne : ∀ {j}, own S j = true → j ≠ i := fun {j} h z => by subst z; rw [own_of0 k] at h; cases h
  have held : ∀ {j b}, Held S (σ.set i (some v)) H (ρ.set i (some d)) j b → Held S σ H ρ j b := fun {j b} ⟨h1, ⟨d', h2⟩, a, h3, h4⟩ => by
    rw [List.getElem?_set_ne (Ne.symm (ne h1))] at h2 h3
    exact ⟨h1, ⟨d', h2⟩, a, h3, h4⟩
  refine ⟨by rw [List.length_set, List.length_set]; exact I.len, I.same, I.ext, fun j d' e' k' => ?_, fun j d' e' k' => ?_, fun x y b h1 h2 => I.nd x y b (held h1) (held h2), fun j x e' k' => ?_, fun j hj kj => ?_, I.ts⟩
  · by_cases hj : j = i
    · subst hj
      have hl : j < ρ.length := by
        have := (List.getElem?_eq_some_iff.mp e').1
        rwa [List.length_set] at this
      rw [List.getElem?_set_self hl] at e'
      cases e'
      exact ⟨v, by rw [List.getElem?_set_self (by rw [← I.len]; exact hl)], r⟩
    · rw [List.getElem?_set_ne (Ne.symm hj)] at e' ⊢
      exact I.sh j d' e' k'
  · rw [List.getElem?_set_ne (Ne.symm (ne k'))] at e' ⊢
    exact I.ow j d' e' k'
  · have hj : j ≠ i := fun z => by subst z; rw [k'] at k; cases k
    rw [List.getElem?_set_ne (Ne.symm hj)] at e' ⊢
    obtain ⟨l, kk, c, b, xs, x', e1, e2, e3, e4, e5, e6, e7, e8⟩ := I.al j x e' k'
    have hl : l ≠ i := ne (own_of2 (deep_knd e2))
    exact ⟨l, kk, c, b, xs, x', e1, e2, e3, by rw [List.getElem?_set_ne (Ne.symm hl)]; exact e4, by rw [List.getElem?_set_ne (Ne.symm hl)]; exact e5, e6, e7, e8⟩
  · rw [List.getElem?_set_ne (Ne.symm (ne kj))]
    exact I.pin j hj kj
/-- no other name of what slot i holds is about -/
def NoAl (S : Sg) (ρ : Ev) (i : Nat) : Prop := ∀ (x : Nat) d, knd S x = 3 → ali S x = some i → ρ[x]? ≠ some (some d)
/-- a slot gets lists of its own -/
theorem SInv.setOw (I : SInv K S B σ F H ρ) {i : Nat} {a : Addr} {bs : List Addr} {d : D} (k : own S i = true) (hp : S.np ≤ i) (w : OwX K F H (knd S i) a bs d) (hB : ∀ b, b ∈ a :: bs → B.H b = none) (hn : ∀ j b, Held S σ H ρ j b → b ∉ a :: bs) (hA : NoAl S ρ i) :
    SInv K S B (σ.set i (some (.ref a))) F H (ρ.set i (some d)) := by
  have held : ∀ {j b}, j ≠ i → Held S (σ.set i (some (.ref a))) H (ρ.set i (some d)) j b → Held S σ H ρ j b := fun {j b} hj ⟨h1, ⟨d', h2⟩, a, h3, h4⟩ => by
    rw [List.getElem?_set_ne (Ne.symm hj)] at h2 h3
    exact ⟨h1, ⟨d', h2⟩, a, h3, h4⟩
  have hat : ∀ {b}, Held S (σ.set i (some (.ref a))) H (ρ.set i (some d)) i b → b ∈ a :: bs := fun {b} h => by
    have hl : i < σ.length := by
      obtain ⟨_, _, _, h3, _⟩ := h
      have := (List.getElem?_eq_some_iff.mp h3).1
      rwa [List.length_set] at this
    exact (w.held (S := S) k (by rw [List.getElem?_set_self (by rw [I.len]; exact hl)]) (by rw [List.getElem?_set_self hl]) b).mp h
  refine ⟨by rw [List.length_set, List.length_set]; exact I.len, I.same, I.ext, fun j d' e' k' => ?_, fun j d' e' k' => ?_, fun x y b h1 h2 => ?_, fun j x e' k' => ?_, fun j hj kj => ?_, I.ts⟩
  · have hj : j ≠ i := fun z => by subst z; rw [own_of0 k'] at k; cases k
    rw [List.getElem?_set_ne (Ne.symm hj)] at e' ⊢
    exact I.sh j d' e' k'
  · by_cases hj : j = i
    · subst hj
      have hl : j < ρ.length := by
        have := (List.getElem?_eq_some_iff.mp e').1
        rwa [List.length_set] at this
      rw [List.getElem?_set_self hl] at e'
      cases e'
      exact ⟨a, bs, by rw [List.getElem?_set_self (by rw [← I.len]; exact hl)], w, fun b hb => .inr (hB b hb)⟩
    · rw [List.getElem?_set_ne (Ne.symm hj)] at e' ⊢
      exact I.ow j d' e' k'
  · by_cases hx : x = i
    · subst hx
      by_cases hy : y = x
      · exact hy.symm
      · exact absurd (hat h1) (hn y b (held hy h2))
    · by_cases hy : y = i
      · subst hy
        exact absurd (hat h2) (hn x b (held hx h1))
      · exact I.nd x y b (held hx h1) (held hy h2)
  · have hj : j ≠ i := fun z => by subst z; rw [own_of3 k'] at k; cases k
    rw [List.getElem?_set_ne (Ne.symm hj)] at e' ⊢
    obtain ⟨l, kk, c, b, xs, x', e1, e2, e3, e4, e5, e6, e7, e8⟩ := I.al j x e' k'
    have hl : l ≠ i := fun z => by subst z; exact hA j x k' e1 e'
    exact ⟨l, kk, c, b, xs, x', e1, e2, e3, by rw [List.getElem?_set_ne (Ne.symm hl)]; exact e4, by rw [List.getElem?_set_ne (Ne.symm hl)]; exact e5, e6, e7, e8⟩
  · have hji : j ≠ i := by omega
    rw [List.getElem?_set_ne (Ne.symm hji)]
    exact I.pin j hj kj
/-- the values of slots forgotten: what is known of fewer slots -/
theorem SInv.weak (I : SInv K S B σ F H ρ) {ρ' : Ev} (hl : ρ'.length = ρ.length) (h : ∀ (i : Nat) (d : D), ρ'[i]? = some (some d) → ρ[i]? = some (some d))
    (ha : ∀ (x j : Nat) d d', knd S x = 3 → ρ'[x]? = some (some d) → ali S x = some j → ρ[j]? = some (some d') → ρ'[j]? = some (some d')) : SInv K S B σ F H ρ' :=
  ⟨hl.trans I.len, I.same, I.ext, fun i d e k => I.sh i d (h i d e) k, fun i d e k => I.ow i d (h i d e) k, fun i j b ⟨h1, ⟨d, h2⟩, h3⟩ ⟨g1, ⟨d', g2⟩, g3⟩ => I.nd i j b ⟨h1, ⟨d, h i d h2⟩, h3⟩ ⟨g1, ⟨d', h j d' g2⟩, g3⟩, fun i d e k => by
    obtain ⟨l, kk, c, b, xs, x', e1, e2, e3, e4, e5⟩ := I.al i d (h i d e) k
    exact ⟨l, kk, c, b, xs, x', e1, e2, e3, ha i l d x' k e e1 e4, e5⟩, I.pin, I.ts⟩
end
end MW
namespace MW
open PySem PySem.Spec PyProof.Rows L2
/-- seen as data: frozen, or a list of one's own whose items are frozen -/
def RpS (K : Fg) (F H : Hp) (v : V) (d : D) : Prop := Rp K F v d ∨ ∃ a xs ds, v = .ref a ∧ d = .list ds ∧ H a = some (.lst xs) ∧ RpL K F xs ds
inductive RpSs (K : Fg) (F H : Hp) : List V → List D → Prop
  | nil : RpSs K F H [] []
  | cons {v : V} {d : D} {vs : List V} {ds : List D} : RpS K F H v d → RpSs K F H vs ds → RpSs K F H (v :: vs) (d :: ds)
theorem RpL.seen {K : Fg} {F H : Hp} : ∀ {vs : List V} {ds : List D}, RpL K F vs ds → RpSs K F H vs ds
  | _, _, .nil => .nil
  | _, _, .cons h r => .cons (.inl h) r.seen
theorem RpS.lst {K : Fg} {F H : Hp} {v : V} {ds : List D} (s : Same F H) (h : RpS K F H v (.list ds)) : ∃ a xs, v = .ref a ∧ Rd H a (.lst xs) ∧ RpL K F xs ds := by
  rcases h with h | ⟨a, xs, ds', e, e1, e2, r⟩
  · cases h with
    | lst a r => exact ⟨_, _, rfl, rd_same s a, r⟩
  · cases e1
    exact ⟨a, xs, e, .inl e2, r⟩
theorem RpS.tup {K : Fg} {F H : Hp} {v : V} {ds : List D} (s : Same F H) (h : RpS K F H v (.tuple ds)) : ∃ a xs, v = .ref a ∧ SqT K H a xs ∧ RpL K F xs ds := by
  rcases h with h | ⟨a, xs, ds', e, e1, e2, r⟩
  · cases h with
    | tup a r => exact ⟨_, _, rfl, sqT_same s a.sq, r⟩
  · cases e1
theorem RpS.int {K : Fg} {F H : Hp} {v : V} {i : Int} (h : RpS K F H v (.int i)) : v = .int i := by
  rcases h with h | ⟨a, xs, ds', e, e1, e2, r⟩
  · cases h; rfl
  · cases e1
theorem RpS.bl {K : Fg} {F H : Hp} {v : V} {b : Bool} (h : RpS K F H v (.bool b)) : v = .bl b := by
  rcases h with h | ⟨a, xs, ds', e, e1, e2, r⟩
  · cases h; rfl
  · cases e1
theorem RpS.str {K : Fg} {F H : Hp} {v : V} {b : Str} (h : RpS K F H v (.str b)) : v = .str b := by
  rcases h with h | ⟨a, xs, ds', e, e1, e2, r⟩
  · cases h; rfl
  · cases e1
theorem RpS.non {K : Fg} {F H : Hp} {v : V} (h : RpS K F H v .none) : v = .non := by
  rcases h with h | ⟨a, xs, ds', e, e1, e2, r⟩
  · cases h; rfl
  · cases e1
theorem RpS.full {K : Fg} {F H : Hp} {v : V} {d : D} (s : Same F H) (h : RpS K F H v d) : Rp K H v d := by
  rcases h with h | ⟨a, xs, ds', rfl, rfl, e2, r⟩
  · exact h.up s
  · exact .lst (.inl e2) (r.up s)
abbrev EKo (K : Fg) (S : Sg) (B : Base) (σ : Sts) (F : Hp) (Q : VK) : D → Ev → Prop := fun d ρ' => ∀ F' H' v, SInv K S B σ F' H' ρ' → Same F F' → Rp K F' v d → Q v H'
abbrev XKo (X : Cx) (W : WX) (S : Sg) (B : Base) (σ : Sts) (F : Hp) : Str → Ev → Prop := fun c ρ' => ∀ F' H' C, SInv X.K S B σ F' H' ρ' → Same F F' → X.mg c = some (.ref C) → W (.ref C) none σ H'
abbrev BKo (K : Fg) (S : Sg) (B : Base) (σ : Sts) (F : Hp) (Q : Bool → Hp → Prop) : Bool → Ev → Prop := fun b ρ' => ∀ F' H', SInv K S B σ F' H' ρ' → Same F F' → Q b H'
abbrev VsKo (K : Fg) (S : Sg) (B : Base) (σ : Sts) (F : Hp) (Q : List V → Hp → Prop) : List D → Ev → Prop := fun ds ρ' => ∀ F' H' vs, SInv K S B σ F' H' ρ' → Same F F' → RpL K F' vs ds → Q vs H'
abbrev LKo (K : Fg) (S : Sg) (B : Base) (σ : Sts) (F : Hp) (Q : VK) : List D → Ev → Prop := fun ds ρ' => ∀ F' H' p xs, SInv K S B σ F' H' ρ' → Same F F' → F' p = none → H' p = some (.lst xs) → RpL K F' xs ds → B.H p = none → (∀ i a, Held S σ H' ρ' i a → a ≠ p) → Q (.ref p) H'
/-- an expression means m -/
structure ME (X : Cx) (W : WX) (S : Sg) (e : Expr) (m : Ev → Out D) : Prop where
  ex : ∃ t : TE, PE X e t ∧ ∀ B F H σ ρ Q, SInv X.K S B σ F H ρ → Sat (m ρ) (EKo X.K S B σ F Q) (XKo X W S B σ F) → t σ H Q
/-- .. a new list -/
structure ML (X : Cx) (W : WX) (S : Sg) (e : Expr) (m : Ev → Out (List D)) : Prop where
  ex : ∃ t : TE, PE X e t ∧ ∀ B F H σ ρ Q, SInv X.K S B σ F H ρ → Sat (m ρ) (LKo X.K S B σ F Q) (XKo X W S B σ F) → t σ H Q
structure MT (X : Cx) (W : WX) (S : Sg) (e : Expr) (m : Ev → Out Bool) : Prop where
  ex : ∃ t : TT, PT X e t ∧ ∀ B F H σ ρ Q, SInv X.K S B σ F H ρ → Sat (m ρ) (BKo X.K S B σ F Q) (XKo X W S B σ F) → t σ H Q
structure MTw (X : Cx) (W : WX) (S : Sg) (e : Expr) (m : Ev → Out Bool) : Prop where
  ex : ∃ t : TT, PW X e t ∧ ∀ B F H σ ρ Q, SInv X.K S B σ F H ρ → Sat (m ρ) (BKo X.K S B σ F Q) (XKo X W S B σ F) → t σ H Q
structure MA (X : Cx) (W : WX) (S : Sg) (es : List Expr) (m : Ev → Out (List D)) : Prop where
  ex : ∃ t : TA, PA X es t ∧ ∀ B F H σ ρ Q, SInv X.K S B σ F H ρ → Sat (m ρ) (VsKo X.K S B σ F Q) (XKo X W S B σ F) → t σ H Q
  len : ∀ ρ ds ρ', m ρ = .ok ds ρ' → ds.length = es.length
section
variable {K : Fg} {S : Sg} {B : Base} {σ : Sts} {F H : Hp} {ρ : Ev}
theorem EKo.up {Q : VK} {F1 : Hp} {d : D} (s : Same F F1) (h : EKo K S B σ F Q d ρ) : EKo K S B σ F1 Q d ρ := fun F' H' v I s' r => h F' H' v I (s.trans s') r
/-- the value is frozen as it stands -/
theorem EKo.now {Q : VK} {d : D} {v : V} (h : EKo K S B σ F Q d ρ) (I : SInv K S B σ F H ρ) (r : Rp K F v d) : Q v H := h F H v I (Same.refl _) r
/-- a new tuple -/
theorem EKo.tup {Q : VK} {ds : List D} {xs : List V} {p : Addr} (h : EKo K S B σ F Q (.tuple ds) ρ) (I : SInv K S B σ F H ρ) (r : RpL K F xs ds) {o : Obj} (ho : o.dict = none) (hp : H p = none) : Q (.ref p) (upd H p (.frz o (.tup xs))) := by
  have hF : F p = none := Same.free I.same hp
  exact h _ _ _ (I.newF hp) (same_upd hF) (.tup (.inl ⟨o, ho, upd_same⟩) (r.up (same_upd hF)))
theorem EKo.lst {Q : VK} {ds : List D} {xs : List V} {p : Addr} (h : EKo K S B σ F Q (.list ds) ρ) (I : SInv K S B σ F H ρ) (r : RpL K F xs ds) (hp : H p = none) : Q (.ref p) (upd H p (.lst xs)) := by
  have hF : F p = none := Same.free I.same hp
  exact h _ _ _ (I.newF hp) (same_upd hF) (.lst (.inl upd_same) (r.up (same_upd hF)))
theorem LKo.mk {Q : VK} {ds : List D} {xs : List V} {p : Addr} (h : LKo K S B σ F Q ds ρ) (I : SInv K S B σ F H ρ) (r : RpL K F xs ds) (hp : H p = none) : Q (.ref p) (upd H p (.lst xs)) :=
  h _ _ _ xs (I.newH hp) (Same.refl _) (Same.free I.same hp) upd_same r (I.bnone hp) fun i a q => I.heldNe hp i a (held_same (fun c e => by rw [upd_ne (I.heldNe hp i c (I.topHeld q.1 q.2.1 e))]) q)
theorem LKo.ofE {Q : VK} {ds : List D} (h : EKo K S B σ F Q (.list ds) ρ) : LKo K S B σ F Q ds ρ := fun F' H' p xs I s hF hH r hB hn =>
  h _ _ _ (I.freeze hF hH (.inl hB) hn soft_lst) (s.trans (same_upd hF)) (.lst (.inl upd_same) (r.up (same_upd hF)))
theorem XKo.up {X : Cx} {W : WX} {F1 : Hp} {c : Str} (s : Same F F1) (h : XKo X W S B σ F c ρ) : XKo X W S B σ F1 c ρ := fun F' H' C I s' g => h F' H' C I (s.trans s') g
end
/-- a mirror of two, in a row -/
def mBin (g : D → D → Option D) (ma mb : Ev → Out D) : Ev → Out D := fun ρ => (ma ρ).bind fun d ρ1 => (mb ρ1).bind fun e ρ2 => Out.of (g d e) ρ2
def mUn (g : D → Option D) (ma : Ev → Out D) : Ev → Out D := fun ρ => (ma ρ).bind fun d ρ1 => Out.of (g d) ρ1
def rd (ρ : Ev) (i : Nat) : Option D := ρ.getD i none
def mVar (i : Nat) : Ev → Out D := fun ρ => Out.of (rd ρ i) ρ
def mC (d : D) : Ev → Out D := fun ρ => .ok d ρ
theorem rd_some {ρ : Ev} {i : Nat} {d : D} (h : rd ρ i = some d) : ρ[i]? = some (some d) := by
  unfold rd at h
  rw [List.getD_eq_getElem?_getD] at h
  cases e : ρ[i]? with
  | none => rw [e] at h; cases h
  | some x => rw [e] at h; exact congrArg some h
/-- an operation on values is g on data -/
def OpD (X : Cx) (r : R2) (g : D → D → Option D) : Prop := ∀ S B F H σ ρ Q x y d e z, SInv X.K S B σ F H ρ → RpS X.K F H x d → RpS X.K F H y e → g d e = some z → EKo X.K S B σ F Q z ρ → r x y H Q
def CallD (X : Cx) (r : List V → Hp → VK → Prop) (g : List D → Option D) : Prop := ∀ S B F H σ ρ Q xs ds z, SInv X.K S B σ F H ρ → RpSs X.K F H xs ds → g ds = some z → EKo X.K S B σ F Q z ρ → r xs H Q
def CallL (X : Cx) (r : List V → Hp → VK → Prop) (g : List D → Option (List D)) : Prop := ∀ S B F H σ ρ Q xs ds z, SInv X.K S B σ F H ρ → RpSs X.K F H xs ds → g ds = some z → LKo X.K S B σ F Q z ρ → r xs H Q
/-- what is handed back is frozen for good -/
def tFrz (t : TE) : TE := fun σ H Q => t σ H fun v H' => ∃ d u, v = .ref d ∧ H' d = some u ∧ L2.Mut (some u) ∧ ∀ od, Q v (upd H' d (.frz od u))
theorem pe_frz {X : Cx} {e : Expr} {t : TE} (h : PE X e t) : PE X e (tFrz t) := by
  refine ⟨fun pins s σ H Q I q => ?_⟩
  refine thn (h.run pins s σ H _ I q) fun u s1 ⟨v, H1, I1, r1, d, x, ev, hd, mu, k⟩ => ?_
  obtain ⟨od, I2⟩ := I1.lock hd mu
  exact ⟨v, _, I2, r1, k od⟩
theorem sat_of {α : Type} {x : Option α} {ρ : Ev} {k : α → Ev → Prop} {e : Str → Ev → Prop} (h : Sat (Out.of x ρ) k e) : ∃ a, x = some a ∧ k a ρ := by
  cases x with
  | none => exact h.elim
  | some a => exact ⟨a, rfl, h⟩
section
variable {X : Cx} {W : WX} {S : Sg} {a b c : Expr} {es : List Expr} {pos : Pos} {ma mb mc : Ev → Out D}
theorem me_int {i : Int} {j pos} : ME X W S (.Constant (.int i) j pos) (mC (.int i)) := ⟨_, pe_int, fun B F H σ ρ Q I h => h.now I (.int i)⟩
theorem me_bl {b : Bool} {j pos} : ME X W S (.Constant (.bool b) j pos) (mC (.bool b)) := ⟨_, pe_bl, fun B F H σ ρ Q I h => h.now I (.bl b)⟩
theorem me_non {j pos} : ME X W S (.Constant .none j pos) (mC .none) := ⟨_, pe_non, fun B F H σ ρ Q I h => h.now I .non⟩
theorem me_str {x : Str} {j pos} : ME X W S (.Constant (.str x) j pos) (mC (.str x)) := ⟨_, pe_str, fun B F H σ ρ Q I h => h.now I (.str x)⟩
/-- a slot that holds a frozen value -/
theorem me_var (i : Nat) {x : Str} {pos : Pos} (k : knd S i = 0 := by rfl) (hN : X.N[i]? = some x := by rfl) (hv : Vis X.env.scope x := by first | exact Or.inl rfl | exact Or.inr (Or.inl rfl) | exact Or.inr (Or.inr rfl)) (hd : (x == ("__debug__" : Str)) = false := by decide)
    (hcd : (x == ("__classdict__" : Str)) = false := by decide) : ME X W S (.Name x pos) (mVar i) := ⟨_, pe_var hN hv hd hcd, fun B F H σ ρ Q I h => by
  obtain ⟨d, e, h⟩ := sat_of h
  obtain ⟨v, e1, r⟩ := I.sh i d (rd_some e) k
  exact ⟨v, e1, h.now I r⟩⟩
theorem me_glob {x : Str} {v : V} {d : D} {u : Value} {pos : Pos} (hg : Gl X x) (hm : X.mg x = some u) (r : RelV v u) (rp : ∀ F, Rp X.K F v d) (hd : (x == ("__debug__" : Str)) = false := by decide) : ME X W S (.Name x pos) (mC d) :=
  ⟨_, pe_glob hg hm r hd, fun B F H σ ρ Q I h => h.now I (rp F)⟩
theorem ME.bin {t : TE → TE → TE} {r : R2} {g : D → D → Option D} (hd : OpD X r g) (ha : ME X W S a ma) (hb : ME X W S b mb) {e : Expr} (mk : ∀ ta tb, PE X a ta → PE X b tb → PE X e (tOp r ta tb)) : ME X W S e (mBin g ma mb) := by
  obtain ⟨ta, pa, qa⟩ := ha.ex
  obtain ⟨tb, pb, qb⟩ := hb.ex
  refine ⟨tOp r ta tb, mk ta tb pa pb, fun B F H σ ρ Q I h => ?_⟩
  refine qa B F H σ ρ _ I (h.bind.mono (fun d ρ1 h1 F1 H1 x I1 s1 r1 => ?_) fun _ _ z => z)
  refine qb B F1 H1 σ ρ1 _ I1 (h1.bind.mono (fun e ρ2 h2 F2 H2 y I2 s2 r2 => ?_) fun _ _ z => XKo.up s1 z)
  obtain ⟨z, hz, h3⟩ := sat_of h2
  exact hd S B F2 H2 σ ρ2 Q x y d e z I2 (.inl (r1.up s2)) (.inl r2) hz (EKo.up (s1.trans s2) h3)
theorem me_op {op : Operator} {r : R2} {g : D → D → Option D} (ho : OpR X (binaryOp op) r) (hd : OpD X r g) (ha : ME X W S a ma) (hb : ME X W S b mb) : ME X W S (.BinOp a op b pos) (mBin g ma mb) :=
  ME.bin (t := fun ta tb => tOp r ta tb) hd ha hb fun _ _ pa pb => pe_op ho pa pb
theorem me_cmp {op : CmpOp} {r : R2} {g : D → D → Option D} (ho : OpR X (compareOp op) r) (hd : OpD X r g) (ha : ME X W S a ma) (hb : ME X W S b mb) (hm : behindInMarks op b = false) : ME X W S (.Compare a [op] [b] pos) (mBin g ma mb) :=
  ME.bin (t := fun ta tb => tOp r ta tb) hd ha hb fun _ _ pa pb => pe_cmpR ho pa pb hm
theorem me_ix {r : R2} {g : D → D → Option D} (hr : IxR X r) (hd : OpD X r g) (ha : ME X W S a ma) (hb : ME X W S b mb) (hs : PlainIx b) : ME X W S (.Subscript a b pos) (mBin g ma mb) :=
  ME.bin (t := fun ta tb => tOp r ta tb) hd ha hb fun _ _ pa pb => pe_ix hr pa pb hs
/-- a test gives a bool without a change -/
def OpB (X : Cx) (r : R2) (g : D → D → Option Bool) : Prop := ∀ S B F H σ ρ x y d e b (Q : VK), SInv X.K S B σ F H ρ → RpS X.K F H x d → RpS X.K F H y e → g d e = some b → Q (.bl b) H → r x y H Q
theorem OpB.opD {r : R2} {g : D → D → Option Bool} (h : OpB X r g) : OpD X r (fun d e => (g d e).map .bool) := fun S B F H σ ρ Q x y d e z I r1 r2 hz k => by
  have hz : (g d e).map PyData.bool = some z := hz
  cases q : g d e with
  | none => rw [q] at hz; cases hz
  | some b =>
    rw [q] at hz
    cases hz
    exact h S B F H σ ρ x y d e b Q I r1 r2 q (k.now I (.bl b))
/-- tests -/
def mTest (g : D → D → Option Bool) (ma mb : Ev → Out D) : Ev → Out Bool := fun ρ => (ma ρ).bind fun d ρ1 => (mb ρ1).bind fun e ρ2 => Out.of (g d e) ρ2
theorem mt_cmp {op : CmpOp} {r : R2} {g : D → D → Option Bool} (ho : OpR X (compareOp op) r) (hd : OpB X r g) (ha : ME X W S a ma) (hb : ME X W S b mb) (hm : behindInMarks op b = false) : MT X W S (.Compare a [op] [b] pos) (mTest g ma mb) := by
  obtain ⟨ta, pa, qa⟩ := ha.ex
  obtain ⟨tb, pb, qb⟩ := hb.ex
  refine ⟨_, pt_cmpR ho pa pb hm, fun B F H σ ρ Q I h => ?_⟩
  refine qa B F H σ ρ _ I (h.bind.mono (fun d ρ1 h1 F1 H1 x I1 s1 r1 => ?_) fun _ _ z => z)
  refine qb B F1 H1 σ ρ1 _ I1 (h1.bind.mono (fun e ρ2 h2 F2 H2 y I2 s2 r2 => ?_) fun _ _ z => XKo.up s1 z)
  obtain ⟨z, hz, h3⟩ := sat_of h2
  exact hd S B F2 H2 σ ρ2 x y d e z _ I2 (.inl (r1.up s2)) (.inl r2) hz ⟨z, rfl, h3 F2 H2 I2 (s1.trans s2)⟩
def mChainT (g g' : D → D → Option Bool) (ma mb mc : Ev → Out D) : Ev → Out Bool := fun ρ => (ma ρ).bind fun d ρ1 => (mb ρ1).bind fun e ρ2 => (Out.of (g d e) ρ2).bind fun b ρ2 =>
  if b = true then (mc ρ2).bind fun f ρ3 => Out.of (g' e f) ρ3 else .ok false ρ2
theorem chain_sat {r r' : R2} {g g' : D → D → Option Bool} (hd : OpB X r g) (hd' : OpB X r' g') {ta tb tc : TE}
    (qa : ∀ B F H σ ρ Q, SInv X.K S B σ F H ρ → Sat (ma ρ) (EKo X.K S B σ F Q) (XKo X W S B σ F) → ta σ H Q) (qb : ∀ B F H σ ρ Q, SInv X.K S B σ F H ρ → Sat (mb ρ) (EKo X.K S B σ F Q) (XKo X W S B σ F) → tb σ H Q)
    (qc : ∀ B F H σ ρ Q, SInv X.K S B σ F H ρ → Sat (mc ρ) (EKo X.K S B σ F Q) (XKo X W S B σ F) → tc σ H Q) {B : Base} {F H : Hp} {σ : Sts} {ρ : Ev} {Q : VK} (I : SInv X.K S B σ F H ρ)
    (h : Sat (mChainT g g' ma mb mc ρ) (BKo X.K S B σ F fun b H' => Q (.bl b) H') (XKo X W S B σ F)) : tChain r r' ta tb tc σ H Q := by
  refine qa B F H σ ρ _ I (h.bind.mono (fun d ρ1 h1 F1 H1 x I1 s1 r1 => ?_) fun _ _ z => z)
  refine qb B F1 H1 σ ρ1 _ I1 (h1.bind.mono (fun e ρ2 h2 F2 H2 y I2 s2 r2 => ?_) fun _ _ z => XKo.up s1 z)
  obtain ⟨k, hk, h3⟩ := sat_of h2.bind
  refine hd S B F2 H2 σ ρ2 x y d e k _ I2 (.inl (r1.up s2)) (.inl r2) hk ⟨k, rfl, ?_⟩
  cases k with
  | false => exact iteF (h3 F2 H2 I2 (s1.trans s2))
  | true =>
    refine iteT (qc B F2 H2 σ ρ2 _ I2 (Sat.mono (Sat.bind h3) (fun f ρ3 h4 F3 H3 z I3 s3 r3 => ?_) fun _ _ z => XKo.up (s1.trans s2) z))
    obtain ⟨k', hk', h5⟩ := sat_of h4
    exact hd' S B F3 H3 σ ρ3 y z e f k' _ I3 (.inl (r2.up s3)) (.inl r3) hk' (h5 F3 H3 I3 ((s1.trans s2).trans s3))
theorem mt_chain {op op' : CmpOp} {r r' : R2} {g g' : D → D → Option Bool} (ho : OpR X (compareOp op) r) (ho' : OpR X (compareOp op') r') (hd : OpB X r g) (hd' : OpB X r' g') (ha : ME X W S a ma) (hb : ME X W S b mb) (hc : ME X W S c mc)
    (hm : lastMarks [op, op'] [b, c] = false := by with_unfolding_all rfl) : MT X W S (.Compare a [op, op'] [b, c] pos) (mChainT g g' ma mb mc) := by
  obtain ⟨ta, pa, qa⟩ := ha.ex
  obtain ⟨tb, pb, qb⟩ := hb.ex
  obtain ⟨tc, pc, qc⟩ := hc.ex
  refine ⟨_, pt_chain ho ho' pa pb pc hm, fun B F H σ ρ Q I h => ?_⟩
  exact chain_sat hd hd' qa qb qc I (h.mono (fun b ρ' k F' H' I' s => ⟨b, rfl, k F' H' I' s⟩) fun _ _ z => z)
def mOfB (mb : Ev → Out Bool) : Ev → Out D := fun ρ => (mb ρ).bind fun b ρ1 => .ok (.bool b) ρ1
theorem me_chain {op op' : CmpOp} {r r' : R2} {g g' : D → D → Option Bool} (ho : OpR X (compareOp op) r) (ho' : OpR X (compareOp op') r') (hd : OpB X r g) (hd' : OpB X r' g') (ha : ME X W S a ma) (hb : ME X W S b mb) (hc : ME X W S c mc)
    (hm : lastMarks [op, op'] [b, c] = false := by with_unfolding_all rfl) : ME X W S (.Compare a [op, op'] [b, c] pos) (mOfB (mChainT g g' ma mb mc)) := by
  obtain ⟨ta, pa, qa⟩ := ha.ex
  obtain ⟨tb, pb, qb⟩ := hb.ex
  obtain ⟨tc, pc, qc⟩ := hc.ex
  refine ⟨_, pe_chain ho ho' pa pb pc hm, fun B F H σ ρ Q I h => ?_⟩
  exact chain_sat hd hd' qa qb qc I (h.bind.mono (fun b ρ' k F' H' I' s => k F' H' _ I' s (.bl b)) fun _ _ z => z)
def truth : D → Option Bool
  | .none => some false
  | .bool b => some b
  | .int i => some (i != 0)
  | .str y => if y.length ≤ 16777216 then some ((y.length : Int) != 0) else none
  | .list ds => some !ds.isEmpty
  | .tuple ds => some !ds.isEmpty
  | .dict _ => none
theorem isEmpty_len {α β : Type} {xs : List α} {ys : List β} (h : xs.length = ys.length) : xs.isEmpty = ys.isEmpty := by
  cases xs <;> cases ys <;> first | rfl | (simp at h)
theorem RpK.len {K : Fg} {F : Hp} : ∀ {xs : List (L2.Key × V)} {ds : List (D × D)}, RpK K F xs ds → xs.length = ds.length
  | _, _, .nil => rfl
  | _, _, .cons _ r => by rw [List.length_cons, List.length_cons, r.len]
theorem tru_rp {K : Fg} {F H : Hp} {v : V} {d : D} {k : Bool} (s : Same F H) (r : Rp K F v d) (h : truth d = some k) : TruV K v H k := by
  cases r with
  | non => cases h; rfl
  | bl b => cases h; rfl
  | int i => cases h; rfl
  | str x =>
    have h : (if x.length ≤ 16777216 then some ((x.length : Int) != 0) else none) = some k := h
    by_cases hx : x.length ≤ 16777216
    · rw [if_pos hx] at h
      cases h
      exact ⟨by rw [sizeLine_eq]; exact hx, rfl⟩
    · rw [if_neg hx] at h
      cases h
  | lst a r =>
    cases h
    exact .inl ⟨_, .inl (rd_same s a), by rw [isEmpty_len r.len]⟩
  | tup a r =>
    cases h
    exact .inr (.inl ⟨_, sqT_same s a.sq, by rw [isEmpty_len r.len]⟩)
  | dct a r => cases h
  | ins a c r => cases h
def mTru (ma : Ev → Out D) : Ev → Out Bool := fun ρ => (ma ρ).bind fun d ρ1 => Out.of (truth d) ρ1
theorem mt_val (ha : ME X W S a ma) (he : ∀ whole, isTrue a X.env whole = (do let v ← whole; standAt a.pos; holding [v] (truthy v)) := by intro _; rfl) : MT X W S a (mTru ma) := by
  obtain ⟨ta, pa, qa⟩ := ha.ex
  refine ⟨_, pt_truth pa he, fun B F H σ ρ Q I h => ?_⟩
  refine qa B F H σ ρ _ I (h.bind.mono (fun d ρ1 h1 F1 H1 x I1 s1 r1 => ?_) fun _ _ z => z)
  obtain ⟨k, hk, h3⟩ := sat_of h1
  exact ⟨k, tru_rp I1.same r1 hk, h3 F1 H1 I1 s1⟩
def mNotB (m : Ev → Out Bool) : Ev → Out Bool := fun ρ => (m ρ).bind fun b ρ1 => .ok (!b) ρ1
theorem mt_not {m : Ev → Out Bool} (ha : MT X W S a m) : MT X W S (.UnaryOp .Not a pos) (mNotB m) := by
  obtain ⟨t, p, q⟩ := ha.ex
  refine ⟨_, pt_not p, fun B F H σ ρ Q I h => ?_⟩
  exact q B F H σ ρ _ I (h.bind.mono (fun b ρ1 h1 F1 H1 I1 s1 => h1 F1 H1 I1 s1) fun _ _ z => z)
def mAndB (m n : Ev → Out Bool) : Ev → Out Bool := fun ρ => (m ρ).bind fun b ρ1 => if b = true then n ρ1 else .ok false ρ1
def mOrB (m n : Ev → Out Bool) : Ev → Out Bool := fun ρ => (m ρ).bind fun b ρ1 => if b = true then .ok true ρ1 else n ρ1
theorem mtw_one {op : BoolOp} {m : Ev → Out Bool} (ha : MT X W S a m) : MTw X W S (.BoolOp op [a] pos) m := by
  obtain ⟨t, p, q⟩ := ha.ex
  cases op with
  | And => exact ⟨_, pw_and1 p, q⟩
  | Or => exact ⟨_, pw_or1 p, q⟩
theorem mtw_and {m n : Ev → Out Bool} {rest : List Expr} (ha : MT X W S a m) (hb : MTw X W S (.BoolOp .And (b :: rest) pos) n) : MTw X W S (.BoolOp .And (a :: b :: rest) pos) (mAndB m n) := by
  obtain ⟨t, p, q⟩ := ha.ex
  obtain ⟨t', p', q'⟩ := hb.ex
  refine ⟨_, pw_and p p', fun B F H σ ρ Q I h => ?_⟩
  refine q B F H σ ρ _ I (h.bind.mono (fun b ρ1 h1 F1 H1 I1 s1 => ?_) fun _ _ z => z)
  cases b with
  | true => exact iteT (q' B F1 H1 σ ρ1 _ I1 (Sat.mono h1 (fun b ρ2 h2 F2 H2 I2 s2 => h2 F2 H2 I2 (s1.trans s2)) fun _ _ z => XKo.up s1 z))
  | false => exact iteF (h1 F1 H1 I1 s1)
theorem mtw_or {m n : Ev → Out Bool} {rest : List Expr} (ha : MT X W S a m) (hb : MTw X W S (.BoolOp .Or (b :: rest) pos) n) : MTw X W S (.BoolOp .Or (a :: b :: rest) pos) (mOrB m n) := by
  obtain ⟨t, p, q⟩ := ha.ex
  obtain ⟨t', p', q'⟩ := hb.ex
  refine ⟨_, pw_or p p', fun B F H σ ρ Q I h => ?_⟩
  refine q B F H σ ρ _ I (h.bind.mono (fun b ρ1 h1 F1 H1 I1 s1 => ?_) fun _ _ z => z)
  cases b with
  | true => exact iteT (h1 F1 H1 I1 s1)
  | false => exact iteF (q' B F1 H1 σ ρ1 _ I1 (Sat.mono h1 (fun b ρ2 h2 F2 H2 I2 s2 => h2 F2 H2 I2 (s1.trans s2)) fun _ _ z => XKo.up s1 z))
theorem MTw.mt {m : Ev → Out Bool} (h : MTw X W S a m) : MT X W S a m := by
  obtain ⟨t, p, q⟩ := h.ex
  exact ⟨_, p.pt, q⟩
def mAndV (ma mb : Ev → Out D) : Ev → Out D := fun ρ => (ma ρ).bind fun d ρ1 => (Out.of (truth d) ρ1).bind fun b ρ1 => if b = true then mb ρ1 else .ok d ρ1
def mOrV (ma mb : Ev → Out D) : Ev → Out D := fun ρ => (ma ρ).bind fun d ρ1 => (Out.of (truth d) ρ1).bind fun b ρ1 => if b = true then .ok d ρ1 else mb ρ1
def mNotV (ma : Ev → Out D) : Ev → Out D := mOfB (mNotB (mTru ma))
theorem me_one {op : BoolOp} (ha : ME X W S a ma) : ME X W S (.BoolOp op [a] pos) ma := by
  obtain ⟨t, p, q⟩ := ha.ex
  exact ⟨_, pe_one p, q⟩
theorem me_and {rest : List Expr} (ha : ME X W S a ma) (hb : ME X W S (.BoolOp .And (b :: rest) pos) mb) : ME X W S (.BoolOp .And (a :: b :: rest) pos) (mAndV ma mb) := by
  obtain ⟨t, p, q⟩ := ha.ex
  obtain ⟨t', p', q'⟩ := hb.ex
  refine ⟨_, pe_andT p p', fun B F H σ ρ Q I h => ?_⟩
  refine q B F H σ ρ _ I (h.bind.mono (fun d ρ1 h1 F1 H1 x I1 s1 r1 => ?_) fun _ _ z => z)
  obtain ⟨k, hk, h3⟩ := sat_of h1.bind
  refine ⟨k, tru_rp I1.same r1 hk, ?_⟩
  cases k with
  | true => exact iteT (q' B F1 H1 σ ρ1 _ I1 (Sat.mono h3 (fun d ρ2 h2 => EKo.up s1 h2) fun _ _ z => XKo.up s1 z))
  | false => exact iteF (h3 F1 H1 x I1 s1 r1)
theorem me_or {rest : List Expr} (ha : ME X W S a ma) (hb : ME X W S (.BoolOp .Or (b :: rest) pos) mb) : ME X W S (.BoolOp .Or (a :: b :: rest) pos) (mOrV ma mb) := by
  obtain ⟨t, p, q⟩ := ha.ex
  obtain ⟨t', p', q'⟩ := hb.ex
  refine ⟨_, pe_orT p p', fun B F H σ ρ Q I h => ?_⟩
  refine q B F H σ ρ _ I (h.bind.mono (fun d ρ1 h1 F1 H1 x I1 s1 r1 => ?_) fun _ _ z => z)
  obtain ⟨k, hk, h3⟩ := sat_of h1.bind
  refine ⟨k, tru_rp I1.same r1 hk, ?_⟩
  cases k with
  | true => exact iteT (h3 F1 H1 x I1 s1 r1)
  | false => exact iteF (q' B F1 H1 σ ρ1 _ I1 (Sat.mono h3 (fun d ρ2 h2 => EKo.up s1 h2) fun _ _ z => XKo.up s1 z))
theorem me_not (ha : ME X W S a ma) : ME X W S (.UnaryOp .Not a pos) (mNotV ma) := by
  obtain ⟨t, p, q⟩ := ha.ex
  refine ⟨_, pe_notT p, fun B F H σ ρ Q I h => ?_⟩
  refine q B F H σ ρ _ I (h.bind.bind.bind.mono (fun d ρ1 h1 F1 H1 x I1 s1 r1 => ?_) fun _ _ z => z)
  obtain ⟨k, hk, h3⟩ := sat_of h1
  exact ⟨k, tru_rp I1.same r1 hk, h3 F1 H1 _ I1 s1 (.bl _)⟩
def mIf (mc : Ev → Out Bool) (ma mb : Ev → Out D) : Ev → Out D := fun ρ => (mc ρ).bind fun b ρ1 => if b = true then ma ρ1 else mb ρ1
theorem me_ifExp {mt : Ev → Out Bool} (hc : MT X W S c mt) (ha : ME X W S a ma) (hb : ME X W S b mb) : ME X W S (.IfExp c a b pos) (mIf mt ma mb) := by
  obtain ⟨t, p, q⟩ := hc.ex
  obtain ⟨t1, p1, q1⟩ := ha.ex
  obtain ⟨t2, p2, q2⟩ := hb.ex
  refine ⟨_, pe_ifExp p p1 p2, fun B F H σ ρ Q I h => ?_⟩
  refine q B F H σ ρ _ I (h.bind.mono (fun b ρ1 h1 F1 H1 I1 s1 => ?_) fun _ _ z => z)
  cases b with
  | true => exact iteT (q1 B F1 H1 σ ρ1 _ I1 (Sat.mono h1 (fun d ρ2 h2 => EKo.up s1 h2) fun _ _ z => XKo.up s1 z))
  | false => exact iteF (q2 B F1 H1 σ ρ1 _ I1 (Sat.mono h1 (fun d ρ2 h2 => EKo.up s1 h2) fun _ _ z => XKo.up s1 z))
def mNil : Ev → Out (List D) := fun ρ => .ok [] ρ
def mCons (ma : Ev → Out D) (mr : Ev → Out (List D)) : Ev → Out (List D) := fun ρ => (ma ρ).bind fun d ρ1 => (mr ρ1).bind fun ds ρ2 => .ok (d :: ds) ρ2
theorem ma_nil : MA X W S [] mNil := ⟨⟨_, pa_nil, fun B F H σ ρ Q I h => h F H [] I (Same.refl _) .nil⟩, fun ρ ds ρ' h => by cases h; rfl⟩
theorem ma_cons {mr : Ev → Out (List D)} (ha : ME X W S a ma) (hr : MA X W S es mr) (hs : starEach (a :: es) X.env = (false, eval a X.env) :: starEach es X.env := by rfl) : MA X W S (a :: es) (mCons ma mr) := by
  obtain ⟨t, p, q⟩ := ha.ex
  obtain ⟨t', p', q'⟩ := hr.ex
  refine ⟨⟨_, pa_cons p p' hs, fun B F H σ ρ Q I h => ?_⟩, fun ρ ds ρ' h => ?_⟩
  · refine q B F H σ ρ _ I (h.bind.mono (fun d ρ1 h1 F1 H1 x I1 s1 r1 => ?_) fun _ _ z => z)
    refine q' B F1 H1 σ ρ1 _ I1 (h1.bind.mono (fun ds ρ2 h2 F2 H2 xs I2 s2 r2 => ?_) fun _ _ z => XKo.up s1 z)
    exact h2 F2 H2 (x :: xs) I2 (s1.trans s2) (.cons (r1.up s2) r2)
  · unfold mCons at h
    cases e1 : ma ρ with
    | ok d ρ1 =>
      rw [e1] at h
      have h' : (mr ρ1).bind (fun ds ρ2 => Out.ok (d :: ds) ρ2) = .ok ds ρ' := h
      cases e2 : mr ρ1 with
      | ok ds2 ρ2 =>
        rw [e2] at h'
        cases h'
        rw [List.length_cons, List.length_cons, hr.len ρ1 ds2 _ e2]
      | err c ρ2 => rw [e2] at h'; cases h'
      | bad => rw [e2] at h'; cases h'
    | err c ρ1 => rw [e1] at h; cases h
    | bad => rw [e1] at h; cases h
theorem small_len {n : Nat} (h : Nat.ble n 1000 = true) : n ≤ sizeLine := by
  rw [sizeLine_eq]
  have := Nat.le_of_ble_eq_true h
  omega
/-- what m hands back is told by len too -/
theorem Sat.tell {α : Type} {o : Out α} {k : α → Ev → Prop} {e : Str → Ev → Prop} (h : Sat o k e) : Sat o (fun a ρ => k a ρ ∧ o = .ok a ρ) e := by
  cases o with
  | ok a ρ => exact ⟨h, rfl⟩
  | err c ρ => exact h
  | bad => exact h
def mTup (ms : Ev → Out (List D)) : Ev → Out D := fun ρ => (ms ρ).bind fun ds ρ1 => .ok (.tuple ds) ρ1
def mLst (ms : Ev → Out (List D)) : Ev → Out D := fun ρ => (ms ρ).bind fun ds ρ1 => .ok (.list ds) ρ1
theorem mkT {pins : List (Addr × Obj)} {s : Shared} {σ : Sts} {H : Hp} {xs : List V} {its : List Value} {n : Nat} {Q : VK} (I : Inv X pins σ H s) (r : Vals xs its) (hz : xs.length ≤ sizeLine)
    (q : ∀ (p : Addr) (o : Obj), o.dict = none → H p = none → Q (.ref p) (upd H p (.frz o (.tup xs)))) : EP X pins σ Q (.ref s.heap.objs.size) { s with heap := s.heap.push { cls := .type "tuple", data := .seq its.toArray n } } := by
  have hn : H s.heap.objs.size = none := I.hok.fresh (Nat.le_refl _)
  exact ⟨.ref s.heap.objs.size, _, I.laid (t' := s.toks) (o := .frz { cls := .type "tuple", data := .seq its.toArray n } (.tup xs)) (fun b u e => Heap.get?_push_of_some _ e) (Nat.le_refl _)
    ⟨Heap.get?_push_size _ rfl, hz, its, r, _, Heap.get?_push_size _ rfl, rfl, _, rfl⟩, rfl, q _ _ rfl hn⟩
def tTupM (t : TA) : TE := fun σ H Q => t σ H fun xs H1 => xs.length ≤ sizeLine ∧ ∀ (p : Addr) (o : Obj), o.dict = none → H1 p = none → Q (.ref p) (upd H1 p (.frz o (.tup xs)))
theorem pe_tupM {t : TA} {x1} (h : PA X es t) : PE X (.Tuple es x1 pos) (tTupM t) := by
  refine ⟨fun pins s σ H Q I hq => wpAny_Tuple_spliced (thn (h.run pos pins s σ H _ I hq) fun us s1 ⟨xs, H1, I1, r, z, q⟩ => ⟨?_, mkT I1 r z q⟩)⟩
  rw [← r.length]; exact z
theorem me_tup {ms : Ev → Out (List D)} {x1} (h : MA X W S es ms) (hl : Nat.ble es.length 1000 = true := by rfl) : ME X W S (.Tuple es x1 pos) (mTup ms) := by
  obtain ⟨t, p, q⟩ := h.ex
  refine ⟨_, pe_tupM p, fun B F H σ ρ Q I hh => ?_⟩
  refine q B F H σ ρ _ I (hh.bind.tell.mono (fun ds ρ1 ⟨h1, e1⟩ F1 H1 xs I1 s1 r1 => ⟨?_, fun p o ho hp => ?_⟩) fun _ _ z => z)
  · rw [r1.len, h.len _ _ _ e1]; exact small_len hl
  · exact (EKo.up s1 h1).tup I1 r1 ho hp
theorem ml_lst {ms : Ev → Out (List D)} (h : MA X W S es ms) (hl : Nat.ble es.length 1000 = true := by rfl) : ML X W S (.List es pos) ms := by
  obtain ⟨t, p, q⟩ := h.ex
  refine ⟨_, pe_lst p, fun B F H σ ρ Q I hh => ?_⟩
  refine q B F H σ ρ _ I (hh.tell.mono (fun ds ρ1 ⟨h1, e1⟩ F1 H1 xs I1 s1 r1 => ⟨?_, fun p hp => ?_⟩) fun _ _ z => z)
  · rw [r1.len, h.len _ _ _ e1]; exact small_len hl
  · exact LKo.mk (fun F' H' p' xs' I' s' => h1 F' H' p' xs' I' (s1.trans s')) I1 r1 hp
theorem ML.me {ms : Ev → Out (List D)} (h : ML X W S a ms) : ME X W S a (mLst ms) := by
  obtain ⟨t, p, q⟩ := h.ex
  exact ⟨_, p, fun B F H σ ρ Q I hh => q B F H σ ρ _ I (hh.bind.mono (fun ds ρ1 h1 => LKo.ofE h1) fun _ _ z => z)⟩
def mCall (g : List D → Option D) (ms : Ev → Out (List D)) : Ev → Out D := fun ρ => (ms ρ).bind fun ds ρ1 => Out.of (g ds) ρ1
def mCallL (g : List D → Option (List D)) (ms : Ev → Out (List D)) : Ev → Out (List D) := fun ρ => (ms ρ).bind fun ds ρ1 => Out.of (g ds) ρ1
theorem me_callV {r : List V → Hp → VK → Prop} {g : List D → Option D} {ms : Ev → Out (List D)} {e : Expr} (hd : CallD X r g) (ha : MA X W S es ms) (mk : ∀ t, PA X es t → PE X e (tCB r t)) : ME X W S e (mCall g ms) := by
  obtain ⟨t, p, q⟩ := ha.ex
  refine ⟨_, mk _ p, fun B F H σ ρ Q I hh => ?_⟩
  refine q B F H σ ρ _ I (hh.bind.mono (fun ds ρ1 h1 F1 H1 xs I1 s1 r1 => ?_) fun _ _ z => z)
  obtain ⟨z, hz, h3⟩ := sat_of h1
  exact hd S B F1 H1 σ ρ1 Q xs ds z I1 r1.seen hz (EKo.up s1 h3)
theorem ml_callV {r : List V → Hp → VK → Prop} {g : List D → Option (List D)} {ms : Ev → Out (List D)} {e : Expr} (hd : CallL X r g) (ha : MA X W S es ms) (mk : ∀ t, PA X es t → PE X e (tCB r t)) : ML X W S e (mCallL g ms) := by
  obtain ⟨t, p, q⟩ := ha.ex
  refine ⟨_, mk _ p, fun B F H σ ρ Q I hh => ?_⟩
  refine q B F H σ ρ _ I (hh.bind.mono (fun ds ρ1 h1 F1 H1 xs I1 s1 r1 => ?_) fun _ _ z => z)
  obtain ⟨z, hz, h3⟩ := sat_of h1
  exact hd S B F1 H1 σ ρ1 Q xs ds z I1 r1.seen hz (fun F' H' p' xs' I' s' => h3 F' H' p' xs' I' (s1.trans s'))
end
end MW
namespace MW
open PySem PySem.Spec PyProof.Rows L2
def tME (K : Fg) (mg : Str → Option Value) (W : WX) (S : Sg) (m : Ev → Out D) : TE := fun σ H Q => ∃ B F ρ, SInv K S B σ F H ρ ∧ Sat (m ρ) (EKo K S B σ F Q) (fun c ρ' => ∀ F' H' C, SInv K S B σ F' H' ρ' → Same F F' → mg c = some (.ref C) → W (.ref C) none σ H')
def tMT (K : Fg) (mg : Str → Option Value) (W : WX) (S : Sg) (m : Ev → Out Bool) : TT := fun σ H Q => ∃ B F ρ, SInv K S B σ F H ρ ∧ Sat (m ρ) (BKo K S B σ F Q) (fun c ρ' => ∀ F' H' C, SInv K S B σ F' H' ρ' → Same F F' → mg c = some (.ref C) → W (.ref C) none σ H')
section
variable {X : Cx} {W : WX} {S : Sg}
theorem ME.run {e : Expr} {m : Ev → Out D} (h : ME X W S e m) : PE X e (tME X.K X.mg W S m) := by
  obtain ⟨t, p, q⟩ := h.ex
  exact ⟨fun pins s σ H Q I ⟨B, F, ρ, J, z⟩ => p.run pins s σ H Q I (q B F H σ ρ Q J z)⟩
theorem MT.run {e : Expr} {m : Ev → Out Bool} (h : MT X W S e m) : PT X e (tMT X.K X.mg W S m) := by
  obtain ⟨t, p, q⟩ := h.ex
  exact ⟨fun pins s σ H Q I ⟨B, F, ρ, J, z⟩ => p.run pins s σ H Q I (q B F H σ ρ Q J z)⟩
end
def reb (T : List NdefX.NTab) (S : Sg) (σ : Sts) (F H : Hp) (ρ : Ev) : Base := ⟨fun a => (∃ i, Held S σ H ρ i a) ∨ ∃ p ∈ T, p.1 = a, fun a => ∃ i, S.np ≤ i ∧ Held S σ H ρ i a, F, H, σ, T⟩
section
variable {K : Fg} {S : Sg} {B : Base} {σ : Sts} {F H : Hp} {ρ : Ev}
theorem SInv.into (I : SInv K S B σ F H ρ) : SInv K S (reb B.T S σ F H ρ) σ F H ρ :=
  ⟨I.len, I.same, ⟨Same.refl _, fun _ _ e _ => e, fun _ e => e, fun _ _ e => .inl e, I.ext.tb, fun p hp => .inr ⟨p, hp, rfl⟩, I.ext.tf⟩, I.sh, fun i d e k => let ⟨a, bs, e1, w, _⟩ := I.ow i d e k; ⟨a, bs, e1, w, fun b hb => .inl ⟨.inl ⟨i, (w.held (S := S) k e e1 b).mpr hb⟩, fun z => ⟨i, z, (w.held (S := S) k e e1 b).mpr hb⟩⟩⟩, I.nd, I.al, fun _ _ _ => rfl, I.ts⟩
theorem SInv.out (I : SInv K S B σ F H ρ) {i : Nat} {a : Addr} (h : Held S σ H ρ i a) : (B.O a ∧ (S.np ≤ i → B.M a)) ∨ B.H a = none := (I.heldAt h).2.2
theorem SInv.back (I : SInv K S B σ F H ρ) {σ' : Sts} {F' H' : Hp} {ρ' : Ev} (J : SInv K S (reb B.T S σ F H ρ) σ' F' H' ρ') : SInv K S B σ' F' H' ρ' := by
  refine ⟨J.len, J.same, ⟨I.ext.fs.trans J.ext.fs, fun b o e n => ?_, fun b e => I.ext.st b (J.ext.st b e), fun b o e => ?_, J.ext.tb, I.ext.to, J.ext.tf⟩, J.sh, fun i d e k => ?_, J.nd, J.al, fun i hi hk => (J.pin i hi hk).trans (I.pin i hi hk), I.ts⟩
  · refine J.ext.hs b o (I.ext.hs b o e n) fun z => ?_
    rcases z with ⟨i, z⟩ | ⟨p, hp, z⟩
    · rcases I.out z with q | q
      · exact n q.1
      · rw [q] at e; cases e
    · exact n (z ▸ I.ext.to p hp)
  · rcases J.ext.fr b o e with q | q | ⟨i, hi, z⟩
    · exact I.ext.fr b o q
    · exact .inr (.inl (I.ext.st b q))
    · rcases I.out z with q | q
      · exact .inr (.inr (q.2 hi))
      · exact .inr (.inl q)
  · obtain ⟨a, bs, e1, w, q⟩ := J.ow i d e k
    refine ⟨a, bs, e1, w, fun b hb => ?_⟩
    rcases q b hb with ⟨⟨j, z⟩ | ⟨p, hp, z⟩, q⟩ | q
    rotate_left
    · obtain ⟨o, ho⟩ := Option.ne_none_iff_exists'.mp (w.at b hb).2
      exact absurd z (tabs_ne J.ext.tb hp ho (w.soft b hb o ho))
    rotate_left
    · rcases I.out z with q' | q'
      · refine .inl ⟨q'.1, fun hi => ?_⟩
        obtain ⟨j', hj', z'⟩ := q hi
        have e := I.nd j' j b z' z
        subst e
        exact q'.2 hj'
      · exact .inr q'
    · exact .inr (I.ext.st b q)
theorem reb_no {Dn : Addr} {o : HO} (I : NdefX.TabsN B.T H) (hn : ∀ j a, Held S σ H ρ j a → a ≠ Dn) (e : H Dn = some o) (so : Soft o) : ¬ (reb B.T S σ F H ρ).O Dn := fun z => by
  rcases z with ⟨j, z⟩ | ⟨p, hp, z⟩
  · exact hn j Dn z rfl
  · exact tabs_ne I hp e so z
end
inductive Fl where
  | nx | bk | ct
  | rt (d : D)
def FlOk (K : Fg) (F' : Hp) (D : Ends) (σ' : Sts) (H' : Hp) : Fl → Prop
  | .nx => D.nx σ' H'
  | .bk => D.bk σ' H'
  | .ct => D.ct σ' H'
  | .rt d => ∀ v, Rp K F' v d → D.rt v H'
abbrev FKo (K : Fg) (S : Sg) (B : Base) (F : Hp) (D : Ends) : Fl → Ev → Prop := fun fl ρ' => ∀ F' H' σ', SInv K S B σ' F' H' ρ' → Same F F' → FlOk K F' D σ' H' fl
abbrev XSo (X : Cx) (W : WX) (S : Sg) (B : Base) (F : Hp) : Str → Ev → Prop := fun c ρ' => ∀ F' H' σ' C, SInv X.K S B σ' F' H' ρ' → Same F F' → X.mg c = some (.ref C) → W (.ref C) none σ' H'
structure MS (X : Cx) (W : WX) (S : Sg) (st : Stmt) (m : Ev → Out Fl) : Prop where
  ex : ∃ t : TS, PS X st t ∧ ∀ B F H σ ρ D, SInv X.K S B σ F H ρ → Sat (m ρ) (FKo X.K S B F D) (XSo X W S B F) → t D σ H
structure MSs (X : Cx) (W : WX) (S : Sg) (sts : List Stmt) (m : Ev → Out Fl) : Prop where
  ex : ∃ t : TS, PSs X sts t ∧ ∀ B F H σ ρ D, SInv X.K S B σ F H ρ → Sat (m ρ) (FKo X.K S B F D) (XSo X W S B F) → t D σ H
section
variable {K : Fg} {S : Sg} {B : Base} {σ : Sts} {F F1 H : Hp} {ρ : Ev}
theorem FKo.up {D : Ends} {fl : Fl} (s : Same F F1) (h : FKo K S B F D fl ρ) : FKo K S B F1 D fl ρ := fun F' H' σ' I s' => h F' H' σ' I (s.trans s')
theorem XSo.up {X : Cx} {W : WX} {c : Str} (s : Same F F1) (h : XSo X W S B F c ρ) : XSo X W S B F1 c ρ := fun F' H' σ' C I s' => h F' H' σ' C I (s.trans s')
theorem XSo.ex {X : Cx} {W : WX} {c : Str} (h : XSo X W S B F c ρ) : XKo X W S B σ F c ρ := fun F' H' C I s => h F' H' σ C I s
end
section
variable {X : Cx} {W : WX} {S : Sg} {e a : Expr} {pos : Pos}
def mNext : Ev → Out Fl := fun ρ => .ok .nx ρ
def mSeq (m n : Ev → Out Fl) : Ev → Out Fl := fun ρ => (m ρ).bind fun fl ρ1 => match fl with
  | .nx => n ρ1
  | .bk => .ok .bk ρ1
  | .ct => .ok .ct ρ1
  | .rt d => .ok (.rt d) ρ1
theorem mss_nil : MSs X W S [] mNext := ⟨_, pss_nil, fun B F H σ ρ D I h => h F H σ I (Same.refl _)⟩
theorem mss_cons {st : Stmt} {rest : List Stmt} {m n : Ev → Out Fl} (h1 : MS X W S st m) (h2 : MSs X W S rest n) : MSs X W S (st :: rest) (mSeq m n) := by
  obtain ⟨t, p, q⟩ := h1.ex
  obtain ⟨u, p', q'⟩ := h2.ex
  refine ⟨_, pss_cons p p', fun B F H σ ρ D I h => ?_⟩
  refine q B F H σ ρ _ I (h.bind.mono (fun fl ρ1 h1 F1 H1 σ1 I1 s1 => ?_) fun _ _ z => z)
  cases fl with
  | nx => exact q' B F1 H1 σ1 ρ1 D I1 (Sat.mono h1 (fun fl ρ2 h2 => FKo.up s1 h2) fun _ _ z => XSo.up s1 z)
  | bk => exact h1 F1 H1 σ1 I1 s1
  | ct => exact h1 F1 H1 σ1 I1 s1
  | rt d => exact h1 F1 H1 σ1 I1 s1
theorem mss_one {st : Stmt} {m : Ev → Out Fl} (h1 : MS X W S st m) : MSs X W S [st] m := by
  obtain ⟨t, p, q⟩ := h1.ex
  exact ⟨_, pss_one p, q⟩
theorem ms_continue : MS X W S (.Continue pos) (fun ρ => .ok .ct ρ) := ⟨_, ps_continue, fun B F H σ ρ D I h => h F H σ I (Same.refl _)⟩
def mRet (m : Ev → Out D) : Ev → Out Fl := fun ρ => (m ρ).bind fun d ρ1 => .ok (.rt d) ρ1
theorem ms_ret {m : Ev → Out D} (he : ME X W S e m) : MS X W S (.Return (some e) pos) (mRet m) := by
  obtain ⟨t, p, q⟩ := he.ex
  refine ⟨_, ps_ret p, fun B F H σ ρ D I h => ?_⟩
  exact q B F H σ ρ _ I (h.bind.mono (fun d ρ1 h1 F1 H1 v I1 s1 r1 => h1 F1 H1 σ I1 s1 v r1) fun _ _ z => XSo.ex z)
def mIfS (c : Ev → Out Bool) (m n : Ev → Out Fl) : Ev → Out Fl := fun ρ => (c ρ).bind fun b ρ1 => if b = true then m ρ1 else n ρ1
theorem ms_if {c : Expr} {as bs : List Stmt} {mc : Ev → Out Bool} {m n : Ev → Out Fl} (hc : MT X W S c mc) (ha : MSs X W S as m) (hb : MSs X W S bs n) : MS X W S (.If c as bs pos) (mIfS mc m n) := by
  obtain ⟨t, p, q⟩ := hc.ex
  obtain ⟨t1, p1, q1⟩ := ha.ex
  obtain ⟨t2, p2, q2⟩ := hb.ex
  refine ⟨_, ps_if p p1 p2, fun B F H σ ρ D I h => ?_⟩
  refine q B F H σ ρ _ I (h.bind.mono (fun b ρ1 h1 F1 H1 I1 s1 => ?_) fun _ _ z => XSo.ex z)
  cases b with
  | true => exact iteT (q1 B F1 H1 σ ρ1 _ I1 (Sat.mono h1 (fun d ρ2 h2 => FKo.up s1 h2) fun _ _ z => XSo.up s1 z))
  | false => exact iteF (q2 B F1 H1 σ ρ1 _ I1 (Sat.mono h1 (fun d ρ2 h2 => FKo.up s1 h2) fun _ _ z => XSo.up s1 z))
def mDrop (m : Ev → Out D) : Ev → Out Fl := fun ρ => (m ρ).bind fun _ ρ1 => .ok .nx ρ1
theorem ms_expr {m : Ev → Out D} (he : ME X W S e m) (hs : swapsWith e none pos.line X.env = pure false := by rfl) : MS X W S (.Expr e pos) (mDrop m) := by
  obtain ⟨t, p, q⟩ := he.ex
  refine ⟨_, ps_expr p hs, fun B F H σ ρ D I h => ?_⟩
  exact q B F H σ ρ _ I (h.bind.mono (fun d ρ1 h1 F1 H1 v I1 s1 r1 => h1 F1 H1 σ I1 s1) fun _ _ z => XSo.ex z)
/-- name = value -/
def mSet (i : Nat) (m : Ev → Out D) : Ev → Out Fl := fun ρ => (m ρ).bind fun d ρ1 => .ok .nx (ρ1.set i (some d))
theorem ms_set (i : Nat) {x : Str} {m : Ev → Out D} {pos' : Pos} (k : knd S i = 0) (hN : X.N.Nodup) (hi : X.N[i]? = some x) (hx : Loc X.env.scope x) (he : ME X W S e m) (hs : swapsWith e (some (.Name x pos')) pos.line X.env = pure false := by rfl)
    (hf : X.fn x = true ∨ X.env.scope.names.lookup x = some .local := by first | exact .inl rfl | exact .inr rfl | assumption) : MS X W S (.Assign [.Name x pos'] e pos) (mSet i m) := by
  obtain ⟨t, p, q⟩ := he.ex
  refine ⟨_, ps_set hN hi hx p hs hf, fun B F H σ ρ D I h => ?_⟩
  exact q B F H σ ρ _ I (h.bind.mono (fun d ρ1 h1 F1 H1 v I1 s1 r1 => h1 F1 H1 _ (I1.setSh k r1) s1) fun _ _ z => XSo.ex z)
/-- name = a new list, from now on one's own -/
def mSetL (i : Nat) (m : Ev → Out (List D)) : Ev → Out Fl := fun ρ => (m ρ).bind fun ds ρ1 => .ok .nx (ρ1.set i (some (.list ds)))
theorem noAl1 {K : Fg} {B : Base} {σ : Sts} {F H : Hp} {ρ : Ev} {i : Nat} (I : SInv K S B σ F H ρ) (k : knd S i = 1) : NoAl S ρ i := fun x d kx e1 e => by
  obtain ⟨j, _, _, _, _, _, e2, e3, _⟩ := I.al x d e kx
  rw [e1] at e2
  cases e2
  rw [deep_of1 k] at e3
  cases e3
theorem setL_sat {i : Nat} {m : Ev → Out (List D)} {t : TE} (k : knd S i = 1) (hp : Nat.ble S.np i = true)
    (q : ∀ B F H σ ρ Q, SInv X.K S B σ F H ρ → Sat (m ρ) (LKo X.K S B σ F Q) (XKo X W S B σ F) → t σ H Q) : ∀ B F H σ ρ D, SInv X.K S B σ F H ρ → Sat (mSetL i m ρ) (FKo X.K S B F D) (XSo X W S B F) → tAsg t (gName i) D σ H := fun B F H σ ρ D I h =>
  q B F H σ ρ _ I (h.bind.mono (fun ds ρ1 h1 F1 H1 p xs I1 s1 hF hH r hB hn => h1 F1 H1 _ (I1.setOw (bs := []) (own_of1 k) (Nat.le_of_ble_eq_true hp) ⟨by simp, by rw [k]; exact ⟨rfl, xs, ds, rfl, hF, hH, r⟩⟩ (fun b hb => by
    have : b = p := by simpa using hb
    subst this; exact hB) (fun j b hh z => by
    have : b = p := by simpa using z
    exact hn j b hh this) (noAl1 I1 k)) s1) fun _ _ z => XSo.ex z)
theorem ms_setL (i : Nat) {x : Str} {m : Ev → Out (List D)} {pos' : Pos} (k : knd S i = 1) (hp : Nat.ble S.np i = true) (hN : X.N.Nodup) (hi : X.N[i]? = some x) (hx : Loc X.env.scope x) (he : ML X W S e m) (hs : swapsWith e (some (.Name x pos')) pos.line X.env = pure false := by rfl)
    (hf : X.fn x = true ∨ X.env.scope.names.lookup x = some .local := by first | exact .inl rfl | exact .inr rfl | assumption) : MS X W S (.Assign [.Name x pos'] e pos) (mSetL i m) := by
  obtain ⟨t, p, q⟩ := he.ex
  exact ⟨_, ps_set hN hi hx p hs hf, setL_sat k hp q⟩
/-- a list of one's own, asked by a two-place operation whose right side is reckoned first -/
def mOwnBin (g : D → D → Option D) (i : Nat) (mb : Ev → Out D) : Ev → Out D := fun ρ => (Out.of (rd ρ i) ρ).bind fun _ ρ => (mb ρ).bind fun e ρ2 => (Out.of (rd ρ2 i) ρ2).bind fun d ρ2 => Out.of (g d e) ρ2
theorem own_lst {K : Fg} {B : Base} {σ : Sts} {F H : Hp} {ρ : Ev} {i : Nat} {d : D} (I : SInv K S B σ F H ρ) (k : knd S i = 1) (e : rd ρ i = some d) : ∃ a, σ[i]? = some (some (.ref a)) ∧ OwL K F H a d := by
  obtain ⟨a, bs, e1, w, _⟩ := I.ow i d (rd_some e) (own_of1 k)
  have w2 := w.2
  rw [k] at w2
  exact ⟨a, e1, w2.2⟩
theorem own_at {K : Fg} {B : Base} {σ : Sts} {F H : Hp} {ρ : Ev} {i : Nat} {d : D} (I : SInv K S B σ F H ρ) (k : knd S i = 1) (e : rd ρ i = some d) : ∃ a, σ[i]? = some (some (.ref a)) ∧ RpS K F H (.ref a) d := by
  obtain ⟨a, e1, xs, ds, e2, _, e4, r⟩ := own_lst I k e
  exact ⟨a, e1, .inr ⟨a, xs, ds, rfl, e2, e4, r⟩⟩
theorem own_bin {i : Nat} {r : R2} {g : D → D → Option D} {mb : Ev → Out D} {b : Expr} {x : Str} {p : Pos} (hd : OpD X r g) (k : knd S i = 1) (hb : ME X W S b mb) {e : Expr} (mk : ∀ tb, PE X b tb → PE X e (tOp r (tVar i) tb)) : ME X W S e (mOwnBin g i mb) := by
  obtain ⟨tb, pb, qb⟩ := hb.ex
  refine ⟨_, mk _ pb, fun B F H σ ρ Q I h => ?_⟩
  obtain ⟨d0, e0, h⟩ := sat_of h.bind
  obtain ⟨a, ea, _⟩ := own_at I k e0
  refine ⟨_, ea, ?_⟩
  refine qb B F H σ ρ _ I ((Sat.bind h).mono (fun e ρ2 h2 F2 H2 y I2 s2 r2 => ?_) fun _ _ z => z)
  obtain ⟨d, e1, h3⟩ := sat_of h2.bind
  obtain ⟨z, hz, h4⟩ := sat_of h3
  obtain ⟨a', ea', ra⟩ := own_at I2 k e1
  rw [ea] at ea'
  cases ea'
  exact hd S B F2 H2 σ ρ2 Q (.ref a) y d e z I2 ra (.inl r2) hz (EKo.up s2 h4)
theorem me_ixO (i : Nat) {x : Str} {p : Pos} {b : Expr} {mb : Ev → Out D} {r : R2} {g : D → D → Option D} (hr : IxR X r) (hd : OpD X r g) (k : knd S i = 1) (hb : ME X W S b mb) (hs : PlainIx b) (hv : PE X (.Name x p) (tVar i)) :
    ME X W S (.Subscript (.Name x p) b pos) (mOwnBin g i mb) :=
  own_bin (x := x) (p := p) hd k hb fun _ pb => pe_ix hr hv pb hs
def mTestOwn (g : D → D → Option Bool) (ma : Ev → Out D) (i : Nat) : Ev → Out Bool := fun ρ => (ma ρ).bind fun d ρ1 => (Out.of (rd ρ1 i) ρ1).bind fun e ρ1 => Out.of (g d e) ρ1
theorem mt_cmpO (i : Nat) {x : Str} {p : Pos} {op : CmpOp} {r : R2} {g : D → D → Option Bool} {ma : Ev → Out D} (ho : OpR X (compareOp op) r) (hd : OpB X r g) (k : knd S i = 1) (ha : ME X W S a ma) (hm : behindInMarks op (.Name x p) = false) (hv : PE X (.Name x p) (tVar i)) :
    MT X W S (.Compare a [op] [.Name x p] pos) (mTestOwn g ma i) := by
  obtain ⟨ta, pa, qa⟩ := ha.ex
  refine ⟨_, pt_cmpR ho pa hv hm, fun B F H σ ρ Q I h => ?_⟩
  refine qa B F H σ ρ _ I ((Sat.bind h).mono (fun d ρ1 h2 F1 H1 x I1 s1 r1 => ?_) fun _ _ z => z)
  obtain ⟨e, e1, h3⟩ := sat_of h2.bind
  obtain ⟨z, hz, h4⟩ := sat_of h3
  obtain ⟨b, eb, rb⟩ := own_at I1 k e1
  exact ⟨_, eb, hd S B F1 H1 σ ρ1 x (.ref b) d e z _ I1 (.inl r1) rb hz ⟨z, rfl, h4 F1 H1 I1 s1⟩⟩
/-- f(one's own list) -/
def mCallO (g : List D → Option D) (i : Nat) : Ev → Out D := fun ρ => (Out.of (rd ρ i) ρ).bind fun d ρ => Out.of (g [d]) ρ
theorem me_callO (i : Nat) {x : Str} {p : Pos} {r : List V → Hp → VK → Prop} {g : List D → Option D} {e : Expr} (hd : CallD X r g) (k : knd S i = 1) (mk : ∀ t, PA X [.Name x p] t → PE X e (tCB r t)) (hv : PE X (.Name x p) (tVar i)) : ME X W S e (mCallO g i) := by
  refine ⟨_, mk _ (pa_cons hv pa_nil), fun B F H σ ρ Q I h => ?_⟩
  obtain ⟨d, e1, h3⟩ := sat_of h.bind
  obtain ⟨z, hz, h4⟩ := sat_of h3
  obtain ⟨b, eb, rb⟩ := own_at I k e1
  exact ⟨_, eb, hd S B F H σ ρ Q [.ref b] [d] z I (.cons rb .nil) hz h4⟩
def mCallOL (g : List D → Option (List D)) (i : Nat) : Ev → Out (List D) := fun ρ => (Out.of (rd ρ i) ρ).bind fun d ρ => Out.of (g [d]) ρ
theorem ml_callO (i : Nat) {x : Str} {p : Pos} {r : List V → Hp → VK → Prop} {g : List D → Option (List D)} {e : Expr} (hd : CallL X r g) (k : knd S i = 1) (mk : ∀ t, PA X [.Name x p] t → PE X e (tCB r t)) (hv : PE X (.Name x p) (tVar i)) : ML X W S e (mCallOL g i) := by
  refine ⟨_, mk _ (pa_cons hv pa_nil), fun B F H σ ρ Q I h => ?_⟩
  obtain ⟨d, e1, h3⟩ := sat_of h.bind
  obtain ⟨z, hz, h4⟩ := sat_of h3
  obtain ⟨b, eb, rb⟩ := own_at I k e1
  exact ⟨_, eb, hd S B F H σ ρ Q [.ref b] [d] z I (.cons rb .nil) hz h4⟩
/-- one's own list as a value, for good: the slot is given up -/
def mMove (i : Nat) : Ev → Out D := fun ρ => (Out.of (rd ρ i) ρ).bind fun d ρ => .ok d (ρ.set i none)
theorem SInv.drop {K : Fg} {B : Base} {σ : Sts} {F H : Hp} {ρ : Ev} (I : SInv K S B σ F H ρ) (i : Nat) (hA : NoAl S ρ i) : SInv K S B σ F H (ρ.set i none) := by
  have at_ : ∀ (j : Nat) (d : D), (ρ.set i none)[j]? = some (some d) → j ≠ i ∧ ρ[j]? = some (some d) := fun j d e => by
    by_cases hj : j = i
    · subst hj
      by_cases hl : j < ρ.length
      · rw [List.getElem?_set_self hl] at e; cases e
      · rw [List.getElem?_eq_none (by rw [List.length_set]; omega)] at e; cases e
    · rw [List.getElem?_set_ne (Ne.symm hj)] at e; exact ⟨hj, e⟩
  refine I.weak (by rw [List.length_set]) (fun j d e => (at_ j d e).2) fun x j d d' k e e1 e2 => ?_
  have hj : j ≠ i := fun z => by subst z; exact hA x d k e1 (at_ x d e).2
  rw [List.getElem?_set_ne (Ne.symm hj)]; exact e2
theorem dropped {K : Fg} {B : Base} {σ : Sts} {F H : Hp} {ρ : Ev} (I : SInv K S B σ F H ρ) {i j : Nat} {b : Addr} (h : Held S σ H (ρ.set i none) j b) : j ≠ i ∧ Held S σ H ρ j b := by
  obtain ⟨g1, ⟨d, e⟩, g3⟩ := h
  have hj : j ≠ i := fun z => by
    subst z
    have hl := (List.getElem?_eq_some_iff.mp e).1
    rw [List.length_set] at hl
    rw [List.getElem?_set_self hl] at e
    cases e
  rw [List.getElem?_set_ne (Ne.symm hj)] at e
  exact ⟨hj, g1, ⟨d, e⟩, g3⟩
end
end MW
namespace MW
open PySem PySem.Spec PyProof.Rows L2
structure MG (X : Cx) (S : Sg) (tg : Expr) (t : TG) (vs : List Nat) (g : Ev → D → Option Ev) : Prop where
  pg : PG X tg t
  ok : ∀ B F H σ ρ v d ρ1 (Q : Sts → Hp → Prop), SInv X.K S B σ F H ρ → Rp X.K F v d → g ρ d = some ρ1 → (∀ σ', SInv X.K S B σ' F H ρ1 → wipe σ' vs = wipe σ vs → Q σ' H) → t v σ H Q
theorem wipe_set {σ : Sts} {x : Option V} : ∀ {vs : List Nat} {i : Nat}, i ∈ vs → wipe (σ.set i x) vs = wipe σ vs
  | [], i, h => by cases h
  | v :: vs, i, h => by
    have hw : ∀ (τ : Sts), wipe τ (v :: vs) = (wipe τ vs).set v none := fun _ => rfl
    rw [hw, hw]
    by_cases hi : i ∈ vs
    · rw [wipe_set hi]
    · have e : i = v := by
        rcases List.mem_cons.mp h with e | e
        · exact e
        · exact absurd e hi
      subst e
      have step : ∀ {us : List Nat}, i ∉ us → wipe (σ.set i x) us = (wipe σ us).set i x := by
        intro us
        induction us with
        | nil => intro _; rfl
        | cons u us ih =>
          intro hu
          have h1 : u ≠ i := fun z => hu (by rw [z]; exact List.mem_cons_self)
          show (wipe (σ.set i x) us).set u none = ((wipe σ us).set u none).set i x
          rw [ih fun z => hu (List.mem_cons_of_mem _ z), List.set_comm _ _ h1.symm]
      rw [step hi, List.set_set]
def gN (i : Nat) : Ev → D → Option Ev := fun ρ d => some (ρ.set i (some d))
section
variable {X : Cx} {W : WX} {S : Sg} {pos : Pos}
theorem mg_name (i : Nat) {x : Str} (k : knd S i = 0) (hN : X.N.Nodup) (hi : X.N[i]? = some x) (hx : Loc X.env.scope x) (hf : X.fn x = true ∨ X.env.scope.names.lookup x = some .local := by first | exact .inl rfl | exact .inr rfl | assumption) :
    MG X S (.Name x pos) (gName i) [i] (gN i) :=
  ⟨pg_name hN hi hx hf, fun B F H σ ρ v d ρ1 Q I r e h => by
    cases e
    exact h _ (I.setSh k r) (wipe_set (List.mem_singleton.mpr rfl))⟩
/-- a, b = a pair -/
def gN2 (i j : Nat) : Ev → D → Option Ev := fun ρ d => match d with
  | .tuple [a, b] => some ((ρ.set i (some a)).set j (some b))
  | _ => none
theorem mg_two (i j : Nat) {x y : Str} {p1 p2 : Pos} {kk : Nat} (k : knd S i = 0) (k' : knd S j = 0) (hc : X.calm = true) (h1 : PG X (.Name x p1) (gName i)) (h2 : PG X (.Name y p2) (gName j))
    (hs : (assignEach [Expr.Name x p1, Expr.Name y p2] X.env).map (·.2) = assign (.Name x p1) X.env :: (assignEach [Expr.Name y p2] X.env).map (·.2) := by rfl) (hs2 : (assignEach [Expr.Name y p2] X.env).map (·.2) = assign (.Name y p2) X.env :: (assignEach [] X.env).map (·.2) := by rfl)
    (hn : (assignEach [Expr.Name x p1, Expr.Name y p2] X.env).length = 2 := by rfl) (hst : (assignEach [Expr.Name x p1, Expr.Name y p2] X.env).findIdx? (·.1) = none := by rfl) :
    MG X S (.Tuple [.Name x p1, .Name y p2] kk pos) (gTup X.K 2 (gCons (gName i) (gCons (gName j) gNil))) [i, j] (gN2 i j) :=
  ⟨pg_tup hc (pgs_cons h1 (pgs_cons h2 pgs_nil hs2) hs) hn hst, fun B F H σ ρ v d ρ1 Q I r e h => by
    unfold gN2 at e
    split at e
    · rename_i a b
      cases e
      cases r with
      | tup hq hr =>
        cases hr with
        | cons r1 hr =>
          cases hr with
          | cons r2 hr =>
            cases hr
            refine ⟨_, _, rfl, sqT_same I.same hq.sq, rfl, _, _, rfl, _, _, rfl, rfl, h _ ((I.setSh k r1).setSh k' r2) ?_⟩
            rw [wipe_set (by simp), wipe_set (by simp)]
    · cases e⟩
structure WalkD (K : Fg) (F : Hp) (J : It) (items : List D) : Prop where
  goes : ∀ i H, i < items.length → Same F H → J.go i H
  stops : ∀ H, Same F H → J.stop items.length H
  yields : ∀ i H x H' d, items[i]? = some d → Same F H → J.yld i H x H' → (H' = H ∧ Rp K F x d) ∨ (∃ (T : Addr) (o : Obj) (xs : List V) (ds : List D), x = .ref T ∧ H T = none ∧ o.dict = none ∧ H' = upd H T (.frz o (.tup xs)) ∧ RpL K F xs ds ∧ d = .tuple ds)
abbrev IKo (K : Fg) (S : Sg) (B : Base) (σ : Sts) (F : Hp) (R : It → Hp → Prop) : List D → Ev → Prop := fun items ρ1 => ∀ F1 H1 J, SInv K S B σ F1 H1 ρ1 → Same F F1 → WalkD K F1 J items → items.length ≤ 16777216 → R J H1
structure MI (X : Cx) (W : WX) (S : Sg) (tg iter : Expr) (m : Ev → Out (List D)) : Prop where
  ex : ∃ w : TI, PI X tg iter w ∧ ∀ B F H σ ρ R, SInv X.K S B σ F H ρ → Sat (m ρ) (IKo X.K S B σ F R) (XKo X W S B σ F) → w σ H R
theorem pe_len {e : Expr} {t : TE} (h : PE X e t) : PE X e (fun σ H Q => t σ H fun v H' => (∀ a xs, v = .ref a → (SqL X.K H' a xs ∨ SqT X.K H' a xs) → xs.length ≤ sizeLine) → Q v H') := by
  refine ⟨fun pins s σ H Q I hq => ?_⟩
  refine thn (h.run pins s σ H _ I hq) fun u s1 ⟨v, H1, I1, r, q⟩ => ⟨v, H1, I1, r, q fun a xs e z => ?_⟩
  rcases z with z | z
  · obtain ⟨_, _, _, hz⟩ := I1.list z; exact hz
  · obtain ⟨_, _, _, hz⟩ := I1.tuple z; exact hz
def seqD : D → Option (List D)
  | .list ds => some ds
  | .tuple ds => some ds
  | _ => none
def mSeqD (m : Ev → Out D) : Ev → Out (List D) := fun ρ => (m ρ).bind fun d ρ1 => Out.of (seqD d) ρ1
theorem walkD_list {K : Fg} {F : Hp} {a : Addr} {xs : List V} {ds : List D} (h : Rd F a (.lst xs)) (r : RpL K F xs ds) : WalkD K F (Itl K a) ds :=
  ⟨fun i H hi s => by
      rw [← r.len] at hi
      exact ⟨xs, xs[i], .inl (rd_same s h), by simp [hi]⟩,
    fun H s => ⟨xs, .inl (rd_same s h), by rw [r.len]; exact Nat.le_refl _⟩,
    fun i H x H' d e s y => by
      obtain ⟨v, e1, q⟩ := r.get e
      have := (y.2 xs (.inl (rd_same s h))).symm.trans e1
      cases this
      exact .inl ⟨y.1, q⟩⟩
theorem walkD_tup {K : Fg} {F : Hp} {a : Addr} {xs : List V} {ds : List D} (h : SqT K F a xs) (r : RpL K F xs ds) : WalkD K F (Itt K a) ds :=
  ⟨fun i H hi s => by
      rw [← r.len] at hi
      exact ⟨xs, xs[i], sqT_same s h, by simp [hi]⟩,
    fun H s => ⟨xs, sqT_same s h, by rw [r.len]; exact Nat.le_refl _⟩,
    fun i H x H' d e s y => by
      obtain ⟨v, e1, q⟩ := r.get e
      have := (y.2 xs (sqT_same s h)).symm.trans e1
      cases this
      exact .inl ⟨y.1, q⟩⟩
theorem mi_seq {tg e : Expr} {m : Ev → Out D} (he : ME X W S e m) : MI X W S tg e (mSeqD m) := by
  obtain ⟨t, p, q⟩ := he.ex
  have p' := pe_len p
  refine ⟨fun σ H R => iList X.K (fun σ H Q => t σ H fun v H' => (∀ a xs, v = .ref a → (SqL X.K H' a xs ∨ SqT X.K H' a xs) → xs.length ≤ sizeLine) → Q v H') σ H R ∨ iTup X.K (fun σ H Q => t σ H fun v H' => (∀ a xs, v = .ref a → (SqL X.K H' a xs ∨ SqT X.K H' a xs) → xs.length ≤ sizeLine) → Q v H') σ H R,
    ⟨fun pins s σ H R I h => ?_⟩, fun B F H σ ρ R I h => ?_⟩
  · rcases h with h | h
    · exact (pi_list (tg := tg) p').run pins s σ H R I h
    · exact (pi_tup (tg := tg) p').run pins s σ H R I h
  · have hb := h.bind
    cases e1 : m ρ with
    | bad => rw [e1] at hb; exact hb.elim
    | err c ρ' =>
      rw [e1] at hb
      exact .inl (q B F H σ ρ _ I (by rw [e1]; exact hb))
    | ok d ρ1 =>
      rw [e1] at hb
      obtain ⟨items, hi, k⟩ := sat_of (show Sat (Out.of (seqD d) ρ1) _ _ from hb)
      have hl := sizeLine_eq
      cases d with
      | list ds =>
        cases hi
        refine .inl (q B F H σ ρ _ I ?_)
        rw [e1]
        intro F1 H1 v I1 s1 r1 bd
        cases r1 with
        | lst hq hr =>
          have hz := bd _ _ rfl (.inl (.inl (rd_same I1.same hq)))
          exact ⟨_, rfl, ⟨_, .inl (rd_same I1.same hq)⟩, k F1 H1 _ I1 s1 (walkD_list hq hr) (by rw [← hr.len]; omega)⟩
      | tuple ds =>
        cases hi
        refine .inr (q B F H σ ρ _ I ?_)
        rw [e1]
        intro F1 H1 v I1 s1 r1 bd
        cases r1 with
        | tup hq hr =>
          have hq := hq.sq
          have hz := bd _ _ rfl (.inr (sqT_same I1.same hq))
          exact ⟨_, rfl, ⟨_, sqT_same I1.same hq⟩, k F1 H1 _ I1 s1 (walkD_tup hq hr) (by rw [← hr.len]; omega)⟩
      | none => cases hi
      | bool b => cases hi
      | int i => cases hi
      | str x => cases hi
      | dict ps => cases hi
def rangeD (lo : Int) (n : Nat) : List D := (List.range n).map fun i => .int (lo + (i : Nat))
theorem walkD_range {K : Fg} {F : Hp} {lo : Int} {n : Nat} : WalkD K F (Itr lo n) (rangeD lo n) := by
  have hl : (rangeD lo n).length = n := by simp [rangeD]
  refine ⟨fun i H hi s => ?_, fun H s => ?_, fun i H x H' d e s y => ?_⟩
  · rw [hl] at hi; exact hi
  · rw [hl]; exact Nat.le_refl _
  · obtain ⟨rfl, rfl⟩ := y
    have hi : i < n := by
      have := (List.getElem?_eq_some_iff.mp e).1
      rwa [hl] at this
    unfold rangeD at e
    rw [List.getElem?_map, List.getElem?_range hi] at e
    cases e
    exact .inl ⟨rfl, .int _⟩
def mRange1 (ms : Ev → Out (List D)) : Ev → Out (List D) := fun ρ => (ms ρ).bind fun ds ρ1 => match ds with
  | [.int j] => if -16777216 ≤ j ∧ j ≤ 16777216 then .ok (rangeD 0 j.toNat) ρ1 else .bad
  | _ => .bad
theorem mi_range1 {tg a : Expr} {p : Pos} {ms : Ev → Out (List D)} (hg : Gl X "range") (hm : X.mg "range" = none) (ha : MA X W S [a] ms) (hs : starEach [a] X.env = [(false, eval a X.env)] := by rfl) : MI X W S tg (.Call (.Name "range" p) [a] [] pos) (mRange1 ms) := by
  obtain ⟨t, pp, q⟩ := ha.ex
  refine ⟨_, pi_range1 hg hm pp hs, fun B F H σ ρ R I h => ?_⟩
  refine q B F H σ ρ _ I (h.bind.mono (fun ds ρ1 h1 F1 H1 vs I1 s1 r1 => ?_) fun _ _ z => z)
  split at h1
  · rename_i j
    by_cases hj : -16777216 ≤ j ∧ j ≤ 16777216
    · rw [if_pos hj] at h1
      cases r1 with
      | cons r rr =>
        cases rr
        cases r
        refine ⟨j, rfl, by omega, by omega, h1 F1 H1 _ I1 s1 walkD_range ?_⟩
        simp [rangeD]
        omega
    · rw [if_neg hj] at h1; exact h1.elim
  · exact h1.elim
def forM (g : Ev → D → Option Ev) (mb : Ev → Out Fl) : List D → Ev → Out Fl
  | [], ρ => .ok .nx ρ
  | d :: ds, ρ => (Out.of (g ρ d) ρ).bind fun ρ1 _ => (mb ρ1).bind fun fl ρ2 => match fl with
    | .nx => forM g mb ds ρ2
    | .ct => forM g mb ds ρ2
    | .bk => .ok .nx ρ2
    | .rt d => .ok (.rt d) ρ2
def mFor (mi : Ev → Out (List D)) (g : Ev → D → Option Ev) (mb : Ev → Out Fl) : Ev → Out Fl := fun ρ => (mi ρ).bind fun items ρ1 => forM g mb items ρ1
theorem ms_for {tg iter : Expr} {body : List Stmt} {mi : Ev → Out (List D)} {t : TG} {vs : List Nat} {g : Ev → D → Option Ev} {mb : Ev → Out Fl} (hp : PassesOwn (model X.prog X.w) X.A X.env X.xe) (hc : X.calm = true) (hi : MI X W S tg iter mi) (hg : MG X S tg t vs g) (hb : MSs X W S body mb)
    (hs : ∀ x, foldedSetIterable iter X.env x = pure x := by intro _; rfl) : MS X W S (.For tg iter body [] pos) (mFor mi g mb) := by
  obtain ⟨w, pw, qw⟩ := hi.ex
  obtain ⟨u, pu, qu⟩ := hb.ex
  refine ⟨_, ps_for hp hc pw hg.pg pu hs, fun B F H σ ρ D I h => ?_⟩
  refine qw B F H σ ρ _ I (h.bind.mono (fun items ρ1 h1 F1 H1 J I1 s1 wd hl => ?_) fun _ _ z => XSo.ex z)
  refine ⟨fun i m σ H => m = items.length - i ∧ i ≤ items.length ∧ ∃ F2 ρ2, SInv X.K S B σ F2 H ρ2 ∧ Same F1 F2 ∧ Sat (forM g mb (items.drop i) ρ2) (FKo X.K S B F2 D) (XSo X W S B F2),
    ⟨_, rfl, Nat.zero_le _, F1, ρ1, I1, Same.refl _, Sat.mono h1 (fun fl ρ2 h2 => FKo.up s1 h2) fun _ _ z => XSo.up s1 z⟩, ?_⟩
  rintro i m σ2 H2 ⟨rfl, hi, F2, ρ2, I2, s2, h2⟩
  by_cases hlt : i < items.length
  · refine .inr ⟨wd.goes i H2 hlt (s2.trans I2.same), fun σ' H' => (i + 1 ≤ items.length ∧ ∃ F3 ρ3, SInv X.K S B σ' F3 H' ρ3 ∧ Same F1 F3 ∧ Sat (forM g mb (items.drop (i + 1)) ρ3) (FKo X.K S B F3 D) (XSo X W S B F3)), fun σ' H' hN => ⟨items.length - (i + 1), by omega, rfl, hN.1, hN.2⟩, fun x H' y => ?_⟩
    have hd : items.drop i = items[i] :: items.drop (i + 1) := List.drop_eq_getElem_cons hlt
    rw [hd] at h2
    obtain ⟨ρ3, hg3, h3⟩ := sat_of (Sat.bind (show Sat ((Out.of (g ρ2 items[i]) ρ2).bind _) _ _ from h2))
    have go : ∀ F4 H4, SInv X.K S B σ2 F4 H4 ρ2 → Same F2 F4 → Rp X.K F4 x items[i] → t x σ2 H4 fun σ5 H5 => u { D with nx := fun σ' H' => (i + 1 ≤ items.length ∧ ∃ F3 ρ3, SInv X.K S B σ' F3 H' ρ3 ∧ Same F1 F3 ∧ Sat (forM g mb (items.drop (i + 1)) ρ3) (FKo X.K S B F3 D) (XSo X W S B F3)), ct := fun σ' H' => (i + 1 ≤ items.length ∧ ∃ F3 ρ3, SInv X.K S B σ' F3 H' ρ3 ∧ Same F1 F3 ∧ Sat (forM g mb (items.drop (i + 1)) ρ3) (FKo X.K S B F3 D) (XSo X W S B F3)), bk := D.nx } σ5 H5 := fun F4 H4 I4 s4 r4 => by
      refine hg.ok B F4 H4 σ2 ρ2 x items[i] ρ3 _ I4 r4 hg3 fun σ5 I5 _ => ?_
      refine qu B F4 H4 σ5 ρ3 _ I5 ((Sat.bind h3).mono (fun fl ρ6 h6 F6 H6 σ6 I6 s6 => ?_) fun _ _ z => XSo.up s4 z)
      cases fl with
      | nx => exact ⟨hlt, F6, ρ6, I6, (s2.trans s4).trans s6, Sat.mono h6 (fun fl ρ2 h2 => FKo.up (s4.trans s6) h2) fun _ _ z => XSo.up (s4.trans s6) z⟩
      | ct => exact ⟨hlt, F6, ρ6, I6, (s2.trans s4).trans s6, Sat.mono h6 (fun fl ρ2 h2 => FKo.up (s4.trans s6) h2) fun _ _ z => XSo.up (s4.trans s6) z⟩
      | bk => exact h6 F6 H6 σ6 I6 (s4.trans s6)
      | rt d => exact h6 F6 H6 σ6 I6 (s4.trans s6)
    rcases wd.yields i H2 x H' items[i] (by simp [hlt]) (s2.trans I2.same) y with ⟨rfl, r⟩ | ⟨T, o, xs, ds, rfl, hT, ho, rfl, r, e⟩
    · exact go F2 H' I2 (Same.refl _) (r.up s2)
    · have hF : F2 T = none := Same.free I2.same hT
      have sF := same_upd (o := .frz o (.tup xs)) hF
      refine go (upd F2 T (.frz o (.tup xs))) _ (I2.newF hT) sF ?_
      rw [e]
      exact .tup (.inl ⟨o, ho, upd_same⟩) ((r.up s2).up sF)
  · have e : i = items.length := by omega
    subst e
    rw [List.drop_length] at h2
    exact .inl ⟨wd.stops H2 (s2.trans I2.same), h2 F2 H2 σ2 I2 (Same.refl _)⟩
end
end MW
namespace MW
open PySem PySem.Spec PyProof.Rows L2
def wipeE (ρ : Ev) : List Nat → Ev
  | [] => ρ
  | v :: vs => (wipeE ρ vs).set v none
def restE (ρ0 ρ : Ev) : List Nat → Ev
  | [] => ρ
  | v :: vs => (restE ρ0 ρ vs).set v (ρ0.getD v none)
def noE {α : Type} (o : Out α) : Out α := match o with
  | .err _ _ => .bad
  | o => o
theorem noE_sat {α : Type} {o : Out α} {k : α → Ev → Prop} {e : Str → Ev → Prop} (h : Sat (noE o) k e) (e' : Str → Ev → Prop) : Sat o k e' := by
  cases o with
  | ok a ρ => exact h
  | err c ρ => exact h.elim
  | bad => exact h.elim
theorem noE_bind {α β : Type} {o : Out α} {k : α → Ev → Prop} {f : α → Ev → Out β} {k' : β → Ev → Prop} {e' : Str → Ev → Prop} (h : Sat o k (fun _ _ => False)) (hf : ∀ a ρ, k a ρ → Sat (f a ρ) k' e') : Sat ((noE o).bind f) k' e' := by
  cases o with
  | ok a ρ => exact hf a ρ h
  | err c ρ => exact h.elim
  | bad => exact h.elim
def compM (g : Ev → D → Option Ev) (mt : Ev → Out Bool) (me : Ev → Out D) (vs : List Nat) : List D → Ev → Out (List D)
  | [], ρ => .ok [] ρ
  | d :: ds, ρ => (Out.of (g ρ d) ρ).bind fun ρ1 _ => (mt ρ1).bind fun b ρ2 =>
    if b = true then (me ρ2).bind fun y ρ3 => (compM g mt me vs ds (wipeE ρ3 vs)).bind fun ys ρ4 => .ok (y :: ys) ρ4
    else compM g mt me vs ds (wipeE ρ2 vs)
def mLc (mi : Ev → Out (List D)) (g : Ev → D → Option Ev) (mt : Ev → Out Bool) (me : Ev → Out D) (vs : List Nat) : Ev → Out (List D) := fun ρ => (mi ρ).bind fun items ρ1 =>
  (noE (compM g mt me vs items (wipeE ρ1 vs))).bind fun ys ρ2 => .ok ys (restE ρ1 ρ2 vs)
theorem wipeE_len {ρ : Ev} : ∀ vs : List Nat, (wipeE ρ vs).length = ρ.length
  | [] => rfl
  | v :: vs => by unfold wipeE; rw [List.length_set, wipeE_len vs]
theorem wipeE_at {ρ : Ev} {i : Nat} {d : D} : ∀ {vs : List Nat}, (wipeE ρ vs)[i]? = some (some d) → ρ[i]? = some (some d) ∧ i ∉ vs
  | [], h => ⟨h, by simp⟩
  | v :: vs, h => by
    unfold wipeE at h
    by_cases hi : v = i
    · subst hi
      by_cases hv : v < (wipeE ρ vs).length
      · rw [List.getElem?_set_self hv] at h; cases h
      · rw [List.getElem?_eq_none (by simpa using hv)] at h; cases h
    · rw [List.getElem?_set_ne hi] at h
      obtain ⟨h1, h2⟩ := wipeE_at h
      exact ⟨h1, by simp only [List.mem_cons, not_or]; exact ⟨fun e => hi e.symm, h2⟩⟩
theorem wipe_out {σ : Sts} {i : Nat} : ∀ {vs : List Nat}, i ∉ vs → (wipe σ vs)[i]? = σ[i]?
  | [], _ => rfl
  | v :: vs, h => by
    have h1 : v ≠ i := fun e => h (by rw [e]; exact List.mem_cons_self)
    show ((wipe σ vs).set v none)[i]? = _
    rw [List.getElem?_set_ne h1]
    exact wipe_out fun z => h (List.mem_cons_of_mem _ z)
theorem restE_len {ρ0 ρ : Ev} : ∀ vs : List Nat, (restE ρ0 ρ vs).length = ρ.length
  | [] => rfl
  | v :: vs => by unfold restE; rw [List.length_set, restE_len vs]
theorem restE_out {ρ0 ρ : Ev} {i : Nat} : ∀ {vs : List Nat}, i ∉ vs → (restE ρ0 ρ vs)[i]? = ρ[i]?
  | [], _ => rfl
  | v :: vs, h => by
    have h1 : v ≠ i := fun e => h (by rw [e]; exact List.mem_cons_self)
    show ((restE ρ0 ρ vs).set v _)[i]? = _
    rw [List.getElem?_set_ne h1]
    exact restE_out fun z => h (List.mem_cons_of_mem _ z)
theorem restE_in {ρ0 ρ : Ev} {i : Nat} {d : D} : ∀ {vs : List Nat}, i ∈ vs → (restE ρ0 ρ vs)[i]? = some (some d) → ρ0[i]? = some (some d)
  | [], h, _ => by cases h
  | v :: vs, h, e => by
    have e : ((restE ρ0 ρ vs).set v (ρ0.getD v none))[i]? = some (some d) := e
    by_cases hi : v = i
    · subst hi
      have hl := (List.getElem?_eq_some_iff.mp e).1
      rw [List.length_set] at hl
      rw [List.getElem?_set_self hl] at e
      exact rd_some (Option.some.inj e)
    · rw [List.getElem?_set_ne hi] at e
      refine restE_in ?_ e
      rcases List.mem_cons.mp h with z | z
      · exact absurd z.symm hi
      · exact z
section
variable {K : Fg} {S : Sg} {B : Base} {σ : Sts} {F H : Hp} {ρ : Ev}
theorem SInv.wipe (I : SInv K S B σ F H ρ) (vs : List Nat) (hv : ∀ i ∈ vs, knd S i = 0) : SInv K S B (wipe σ vs) F H (wipeE ρ vs) := by
  have ho : ∀ i, knd S i ≠ 0 → i ∉ vs := fun i k z => k (hv i z)
  have hk : ∀ {i}, own S i = true → knd S i ≠ 0 := fun {i} k z => by rw [own_of0 z] at k; cases k
  have at2 : ∀ (i : Nat) x, i ∉ vs → ρ[i]? = some x → (wipeE ρ vs)[i]? = some x := fun i x hi e => by
    have : ∀ us : List Nat, i ∉ us → (wipeE ρ us)[i]? = ρ[i]? := by
      intro us
      induction us with
      | nil => intro _; rfl
      | cons u us ih =>
        intro h
        show ((wipeE ρ us).set u none)[i]? = _
        rw [List.getElem?_set_ne (fun z => h (by rw [z]; exact List.mem_cons_self))]
        exact ih fun z => h (List.mem_cons_of_mem _ z)
    rw [this vs hi]; exact e
  have held : ∀ {i b}, Held S (L2.wipe σ vs) H (wipeE ρ vs) i b → Held S σ H ρ i b := fun {i b} ⟨k, ⟨d, e⟩, a, e1, h⟩ => ⟨k, ⟨d, (wipeE_at e).1⟩, a, by rw [wipe_out (ho i (hk k))] at e1; exact e1, h⟩
  refine ⟨by rw [wipeE_len, wipe_length]; exact I.len, I.same, I.ext, fun i d e k => ?_, fun i d e k => ?_, fun i j b h1 h2 => I.nd i j b (held h1) (held h2), fun i d e k => ?_, fun i hi k => ?_, I.ts⟩
  · obtain ⟨e1, hn⟩ := wipeE_at e
    obtain ⟨v, e2, r⟩ := I.sh i d e1 k
    exact ⟨v, by rw [wipe_out hn]; exact e2, r⟩
  · obtain ⟨e1, hn⟩ := wipeE_at e
    obtain ⟨a, bs, e2, w⟩ := I.ow i d e1 k
    exact ⟨a, bs, by rw [wipe_out hn]; exact e2, w⟩
  · obtain ⟨e1, hn⟩ := wipeE_at e
    obtain ⟨l, kk, c, b, xs, x', f1, f2, f3, f4, f5, f6, f7, f8⟩ := I.al i d e1 k
    have hl := ho l (hk (own_of2 (deep_knd f2)))
    exact ⟨l, kk, c, b, xs, x', f1, f2, f3, at2 l _ hl f4, by rw [wipe_out hl]; exact f5, f6, f7, by rw [wipe_out hn]; exact f8⟩
  · rw [wipe_out (ho i (hk k))]; exact I.pin i hi k
/-- the block is left: its own names have their old values -/
theorem SInv.rest (I : SInv K S B σ F H ρ) {vs : List Nat} (hv : ∀ i ∈ vs, knd S i = 0) {F' H' : Hp} {ρ' : Ev} {σ' : Sts} (hw : L2.wipe σ' vs = L2.wipe σ vs) (hl : σ'.length = σ.length) (s : Same F F') (J : SInv K S B σ' F' H' ρ') : SInv K S B σ F' H' (restE ρ ρ' vs) := by
  have ho : ∀ i, knd S i ≠ 0 → i ∉ vs := fun i k z => k (hv i z)
  have hk : ∀ {i}, own S i = true → knd S i ≠ 0 := fun {i} k z => by rw [own_of0 z] at k; cases k
  have at_ : ∀ i, i ∉ vs → σ'[i]? = σ[i]? := fun i h => by
    have := congrArg (fun l : Sts => l[i]?) hw
    simp only [wipe_out h] at this
    exact this
  have held : ∀ {i b}, Held S σ H' (restE ρ ρ' vs) i b → Held S σ' H' ρ' i b := fun {i b} ⟨k, ⟨d, e⟩, a, e1, h⟩ => ⟨k, ⟨d, by rw [restE_out (ho i (hk k))] at e; exact e⟩, a, by rw [at_ i (ho i (hk k))]; exact e1, h⟩
  refine ⟨by rw [restE_len, J.len]; exact hl, J.same, J.ext, fun i d e k => ?_, fun i d e k => ?_, fun i j b h1 h2 => J.nd i j b (held h1) (held h2), fun i d e k => ?_, fun i hi k => ?_, J.ts⟩
  · by_cases hi : i ∈ vs
    · obtain ⟨v, e2, r⟩ := I.sh i d (restE_in hi e) k
      exact ⟨v, e2, r.up s⟩
    · rw [restE_out hi] at e
      obtain ⟨v, e2, r⟩ := J.sh i d e k
      exact ⟨v, by rw [← at_ i hi]; exact e2, r⟩
  · rw [restE_out (ho i (hk k))] at e
    obtain ⟨a, bs, e2, w⟩ := J.ow i d e k
    exact ⟨a, bs, by rw [← at_ i (ho i (hk k))]; exact e2, w⟩
  · have hi : i ∉ vs := ho i (by rw [k]; decide)
    rw [restE_out hi] at e
    obtain ⟨l, kk, c, b, xs, x', f1, f2, f3, f4, f5, f6, f7, f8⟩ := J.al i d e k
    have hl' := ho l (hk (own_of2 (deep_knd f2)))
    exact ⟨l, kk, c, b, xs, x', f1, f2, f3, by rw [restE_out hl']; exact f4, by rw [← at_ l hl']; exact f5, f6, f7, by rw [← at_ i hi]; exact f8⟩
  · rw [← at_ i (ho i (hk k))]; exact J.pin i hi k
end
structure MTs (X : Cx) (W : WX) (S : Sg) (ifs : List Expr) (m : Ev → Out Bool) : Prop where
  run : PTs X ifs (tMT X.K X.mg W S m)
abbrev W0 : WX := fun _ _ _ _ => False
def mYes : Ev → Out Bool := fun ρ => .ok true ρ
section
variable {X : Cx} {W : WX} {S : Sg} {pos : Pos}
theorem mts_nil : MTs X W S [] mYes := ⟨⟨fun pins s σ H Q I ⟨B, F, ρ, J, z⟩ => pts_nil.run pins s σ H Q I (z F H J (Same.refl _))⟩⟩
theorem mts_one {c : Expr} {m : Ev → Out Bool} (h : MT X W S c m) : MTs X W S [c] m := ⟨pts_one h.run⟩
/-- what a comprehension's reading asks, by the mirrors -/
theorem lc_sat {K : Fg} {mg : Str → Option Value} {vs : List Nat} {g : Ev → D → Option Ev} {t : TG} {mt : Ev → Out Bool} {me : Ev → Out D} {items : List D} {J : It} {B : Base} {σ : Sts} {F H : Hp} {ρ : Ev} {Q : VK} {e : Str → Ev → Prop} {Dn : Addr}
    (hv : ∀ i ∈ vs, knd S i = 0) (hg : ∀ B F H σ ρ v d ρ1 (Q : Sts → Hp → Prop), SInv K S B σ F H ρ → Rp K F v d → g ρ d = some ρ1 → (∀ σ', SInv K S B σ' F H ρ1 → wipe σ' vs = wipe σ vs → Q σ' H) → t v σ H Q)
    (I : SInv K S B σ F H ρ) (wd : WalkD K F J items) (hl : items.length ≤ 16777216) (hD : H Dn = none)
    (h : Sat ((noE (compM g mt me vs items (wipeE ρ vs))).bind fun ys ρ2 => Out.ok ys (restE ρ ρ2 vs)) (LKo K S B σ F Q) e) :
    ∃ W' : Nat → Nat → Hp → Prop, (∃ m, W' 0 m (upd H Dn (.lst []))) ∧ ∀ i m H, W' i m H →
      (J.stop i H ∧ Q (.ref Dn) H) ∨ (J.go i H ∧ ∃ Nx : Hp → Prop, (∀ H', Nx H' → ∃ m', m' < m ∧ W' (i + 1) m' H') ∧ ∀ x H', J.yld i H x H' → t x (wipe σ vs) H' fun σ2 H2 => wipe σ2 vs = wipe σ vs ∧ tMT K mg W0 S mt σ2 H2 fun b H3 =>
        if b = true then tME K mg W0 S me σ2 H3 fun y H4 => ∃ acc, H4 Dn = some (.lst acc) ∧ acc.length < sizeLine ∧ Nx (upd H4 Dn (.lst (acc ++ [y]))) else Nx H3) := by
  have hsz := sizeLine_eq
  have hww : ∀ {σ' : Sts}, wipe σ' vs = wipe (wipe σ vs) vs → wipe σ' vs = wipe σ vs := fun {σ'} h => by
    rw [h]
    refine List.ext_getElem? fun i => ?_
    by_cases hi : i ∈ vs
    · have nn : ∀ (τ : Sts), τ.length = σ.length → ∀ (us : List Nat), i ∈ us → (wipe τ us)[i]? = if i < σ.length then some none else none := by
        intro τ hτ us
        induction us with
        | nil => intro z; cases z
        | cons u us ih =>
          intro z
          show ((wipe τ us).set u none)[i]? = _
          by_cases hu : u = i
          · subst hu
            by_cases hlt : u < σ.length
            · rw [List.getElem?_set_self (by rw [wipe_length, hτ]; exact hlt), if_pos hlt]
            · rw [List.getElem?_eq_none (by rw [List.length_set, wipe_length, hτ]; omega), if_neg hlt]
          · rw [List.getElem?_set_ne hu]
            refine ih ?_
            rcases List.mem_cons.mp z with z | z
            · exact absurd z.symm hu
            · exact z
      rw [nn _ (wipe_length σ vs) vs hi, nn _ rfl vs hi]
    · rw [wipe_out hi]
  -- what is to hold ahead of turn i
  let P : Nat → Hp → Prop := fun i H2 => i ≤ items.length ∧ ∃ F2 ρ2 acc ys, SInv K S B (wipe σ vs) F2 H2 ρ2 ∧ Same F F2 ∧ F2 Dn = none ∧ H2 Dn = some (.lst acc) ∧ RpL K F2 acc ys ∧ acc.length ≤ i ∧ (∀ j a, Held S (wipe σ vs) H2 ρ2 j a → a ≠ Dn) ∧
    Sat ((noE (compM g mt me vs (items.drop i) ρ2)).bind fun zs ρ3 => Out.ok (ys ++ zs) (restE ρ ρ3 vs)) (LKo K S B σ F2 Q) e
  refine ⟨fun i m H2 => m = items.length - i ∧ P i H2, ⟨_, rfl, Nat.zero_le _, F, wipeE ρ vs, [], [], ?_, Same.refl _, Same.free I.same hD, upd_same, .nil, Nat.le_refl _, ?_, ?_⟩, ?_⟩
  · exact (I.newH hD).wipe vs hv
  · exact fun j a hh => (I.wipe vs hv).heldNe hD j a (held_same (fun c ec => by rw [upd_ne ((I.wipe vs hv).heldNe hD j c ((I.wipe vs hv).topHeld hh.1 hh.2.1 ec))]) hh)
  · simpa using h
  rintro i m H2 ⟨rfl, hi, F2, ρ2, acc, ys, I2, s2, nD, hDn, ra, la, hn, h2⟩
  by_cases hlt : i < items.length
  · refine .inr ⟨wd.goes i H2 hlt (s2.trans I2.same), fun H' => P (i + 1) H', fun H' hP => ⟨items.length - (i + 1), by omega, rfl, hP⟩, fun x H' y => ?_⟩
    have hd : items.drop i = items[i] :: items.drop (i + 1) := List.drop_eq_getElem_cons hlt
    rw [hd] at h2
    -- a turn, over the base as it stands
    have go : ∀ F4 H4, SInv K S B (wipe σ vs) F4 H4 ρ2 → Same F2 F4 → F4 Dn = none → H4 Dn = some (.lst acc) → (∀ j a, Held S (wipe σ vs) H4 ρ2 j a → a ≠ Dn) → Rp K F4 x items[i] → t x (wipe σ vs) H4 fun σ5 H5 => wipe σ5 vs = wipe σ vs ∧ tMT K mg W0 S mt σ5 H5 fun b H3 =>
        if b = true then tME K mg W0 S me σ5 H3 fun y H4 => ∃ acc, H4 Dn = some (.lst acc) ∧ acc.length < sizeLine ∧ P (i + 1) (upd H4 Dn (.lst (acc ++ [y]))) else P (i + 1) H3 := fun F4 H4 I4 s4 n4 d4 hn4 r4 => by
      have h3 := noE_sat (Sat.bind h2) (fun _ _ => False)
      obtain ⟨ρ5, hg5, h5⟩ := sat_of (Sat.bind (show Sat ((Out.of (g ρ2 items[i]) ρ2).bind _) _ _ from h3))
      have I4r := I4.into
      refine hg _ F4 H4 _ ρ2 x items[i] ρ5 _ I4r r4 hg5 fun σ5 I5 w5 => ⟨hww w5, _, F4, ρ5, I5, (Sat.bind h5).mono (fun b ρ6 h6 F6 H6 I6 s6 => ?_) fun _ _ z => z.elim⟩
      have keep : ∀ {F7 H7 ρ7}, SInv K S (reb B.T S (wipe σ vs) F4 H4 ρ2) σ5 F7 H7 ρ7 → H7 Dn = some (.lst acc) ∧ F7 Dn = none := fun {F7 H7 ρ7} I7 => by
        have nO : ¬ (reb B.T S (wipe σ vs) F4 H4 ρ2).O Dn := reb_no I4.ext.tb hn4 d4 soft_lst
        refine ⟨I7.ext.hs Dn _ d4 nO, ?_⟩
        cases q : F7 Dn with
        | none => rfl
        | some o =>
          rcases I7.ext.fr Dn o q with z | z | ⟨j, _, z⟩
          · have z : F4 Dn = some o := z
            rw [n4] at z; cases z
          · have z : H4 Dn = none := z
            rw [d4] at z; cases z
          · exact absurd rfl (hn4 j Dn z)
      have hl5 : σ5.length = (wipe σ vs).length := by
        have := congrArg List.length w5
        rwa [wipe_length, wipe_length] at this
      have held7 : ∀ {F7 H7 ρ7}, SInv K S (reb B.T S (wipe σ vs) F4 H4 ρ2) σ5 F7 H7 ρ7 → ∀ j a, Held S (wipe σ vs) H7 (wipeE ρ7 vs) j a → a ≠ Dn := fun {F7 H7 ρ7} I7 j a ⟨k, ⟨d, e1⟩, c, e2, h⟩ z => by
        subst z
        have hj : j ∉ vs := fun z => by rw [own_of0 (hv j z)] at k; cases k
        obtain ⟨e3, _⟩ := wipeE_at e1
        have e4 : σ5[j]? = (wipe σ vs)[j]? := by
          have := congrArg (fun l : Sts => l[j]?) w5
          simpa only [wipe_out hj] using this
        obtain ⟨_, _, o⟩ := I7.heldAt (i := j) (b := a) ⟨k, ⟨d, e3⟩, c, by rw [e4]; exact e2, h⟩
        rcases o with ⟨z, _⟩ | o
        · exact reb_no I4.ext.tb hn4 d4 soft_lst z
        · have o : H4 a = none := o
          rw [d4] at o; cases o
      have wiped : ∀ {F7 H7 ρ7}, SInv K S (reb B.T S (wipe σ vs) F4 H4 ρ2) σ5 F7 H7 ρ7 → SInv K S B (wipe σ vs) F7 H7 (wipeE ρ7 vs) := fun {F7 H7 ρ7} I7 => by
        have := (I4.back I7).wipe vs hv
        rwa [hww w5] at this
      -- the mirror's rest
      cases b with
      | false =>
        refine iteF ⟨hlt, F6, wipeE ρ6 vs, acc, ys, wiped I6, (s2.trans s4).trans s6, (keep I6).2, (keep I6).1, ra.up (s4.trans s6), by omega, held7 I6, ?_⟩
        exact noE_bind h6 fun zs ρ7 h7 F' H' p xs I' s' => h7 F' H' p xs I' ((s4.trans s6).trans s')
      | true =>
        refine iteT ⟨_, F6, ρ6, I6, (Sat.bind h6).mono (fun y ρ7 h7 F7 H7 v I7 s7 r7 => ?_) fun _ _ z => z.elim⟩
        have hB : B.H Dn = none := I.bnone hD
        refine ⟨acc, (keep I7).1, by omega, hlt, F7, wipeE ρ7 vs, acc ++ [v], ys ++ [y], (wiped I7).setFree (keep I7).2 hB (held7 I7) (fun o0 e => by rw [(keep I7).1] at e; cases e; exact soft_lst), ((s2.trans s4).trans s6).trans s7, (keep I7).2, upd_same, (ra.up ((s4.trans s6).trans s7)).app (.one r7), ?_, fun j a hh => held7 I7 j a (held_same (fun c ec => by rw [upd_ne (held7 I7 j c ((wiped I7).topHeld hh.1 hh.2.1 ec))]) hh), ?_⟩
        · rw [List.length_append]; simp; omega
        · refine noE_bind (Sat.bind h7) fun zs ρ8 h8 F' H' p xs I' s' => ?_
          rw [List.append_assoc]
          exact h8 F' H' p xs I' (((s4.trans s6).trans s7).trans s')
    rcases wd.yields i H2 x H' items[i] (by simp [hlt]) (s2.trans I2.same) y with ⟨rfl, r⟩ | ⟨T, o, xs, ds, rfl, hT, ho, rfl, r, e⟩
    · exact go F2 H' I2 (Same.refl _) nD hDn hn (r.up s2)
    · have hF : F2 T = none := Same.free I2.same hT
      have sF := same_upd (o := .frz o (.tup xs)) hF
      have hne : Dn ≠ T := ne_of_none hDn hT
      refine go (upd F2 T (.frz o (.tup xs))) _ (I2.newF hT) sF (by rw [upd_ne hne]; exact nD) (by rw [upd_ne hne]; exact hDn) (fun j a hh => hn j a (held_same (fun c ec => by rw [upd_ne (I2.heldNe hT j c (I2.topHeld hh.1 hh.2.1 ec))]) hh)) ?_
      rw [e]
      exact .tup (.inl ⟨o, ho, upd_same⟩) ((r.up s2).up sF)
  · have e : i = items.length := by omega
    subst e
    rw [List.drop_length] at h2
    have h3 : LKo K S B σ F2 Q (ys ++ []) (restE ρ ρ2 vs) := h2
    rw [List.append_nil] at h3
    refine .inl ⟨wd.stops H2 (s2.trans I2.same), h3 F2 H2 Dn acc (I.rest hv (hww rfl) (wipe_length σ vs) s2 I2) (Same.refl _) nD hDn ra (I.bnone hD) fun j a ⟨k, ⟨d, e1⟩, c, e2, h⟩ => ?_⟩
    have hj : j ∉ vs := fun z => by rw [own_of0 (hv j z)] at k; cases k
    rw [restE_out hj] at e1
    exact hn j a ⟨k, ⟨d, e1⟩, c, by rw [wipe_out hj]; exact e2, h⟩
/-- [elt for target in iter if ..] -/
theorem lc_all {tg : Expr} {scope : Scope} {oS : List (Str × Nat)} {mi : Ev → Out (List D)} {g : Ev → D → Option Ev} {t : TG} {mt : Ev → Out Bool} {me : Ev → Out D} {wi : TI} (hv : (oS.map (·.2)).all (fun i => knd S i == 0) = true)
    (hg : ∀ (s : Shared) (H : Hp) (C : Addr) (cl : List (Str × Addr)) (fp : List Addr), MG (X.blk s H scope (compEnvC scope cl C X.env) fp) S tg t (oS.map (·.2)) g)
    (qw : ∀ B F H σ ρ R, SInv X.K S B σ F H ρ → Sat (mi ρ) (IKo X.K S B σ F R) (XKo X W S B σ F) → wi σ H R) {B : Base} {F H : Hp} {σ : Sts} {ρ : Ev} {Q : VK} (s0 : Shared) (I : SInv X.K S B σ F H ρ)
    (h : Sat (mLc mi g mt me (oS.map (·.2)) ρ) (LKo X.K S B σ F Q) (XKo X W S B σ F)) : tLc wi t (tMT X.K X.mg W0 S mt) (tME X.K X.mg W0 S me) (oS.map (·.2)) σ H Q := by
  have hv' : ∀ i ∈ oS.map (·.2), knd S i = 0 := fun i hi => by
    have := List.all_eq_true.mp hv i hi
    simpa using this
  refine qw B F H σ ρ _ I ((Sat.bind h).mono (fun items ρ1 h1 F1 H1 J I1 s1 wd hl => fun Dn hD => ?_) fun _ _ z => z)
  refine lc_sat (e := fun _ _ => False) hv' (fun B F H σ ρ v d ρ1 Q I r e k => (hg s0 H 0 [] []).ok B F H σ ρ v d ρ1 Q I r e k) I1 wd hl hD ?_
  cases e1 : noE (compM g mt me (oS.map (·.2)) items (wipeE ρ1 (oS.map (·.2)))) with
  | ok ys ρ2 =>
    rw [e1] at h1
    exact fun F' H' p xs I' s' => h1 F' H' p xs I' (s1.trans s')
  | err c ρ2 =>
    exfalso
    revert e1
    cases compM g mt me (oS.map (·.2)) items (wipeE ρ1 (oS.map (·.2))) <;> intro e1 <;> cases e1
  | bad => rw [e1] at h1; exact h1.elim
theorem ml_lc {elt tg iter : Expr} {ifs : List Expr} {scope : Scope} {oS : List (Str × Nat)} {mi : Ev → Out (List D)} {g : Ev → D → Option Ev} {t : TG} {mt : Ev → Out Bool} {me : Ev → Out D} (hc : X.calm = true) (hN : X.N.Nodup) (hi : MI X W S tg iter mi) (ok : blkC X.N X.env.scope scope oS = true) (hv : (oS.map (·.2)).all (fun i => knd S i == 0) = true)
    (hg : ∀ (s : Shared) (H : Hp) (C : Addr) (cl : List (Str × Addr)) (fp : List Addr), MG (X.blk s H scope (compEnvC scope cl C X.env) fp) S tg t (oS.map (·.2)) g)
    (ht : ∀ (s : Shared) (H : Hp) (C : Addr) (cl : List (Str × Addr)) (fp : List Addr), MTs (X.blk s H scope (compEnvC scope cl C X.env) fp) W0 S ifs mt)
    (he : ∀ (s : Shared) (H : Hp) (C : Addr) (cl : List (Str × Addr)) (fp : List Addr), ME (X.blk s H scope (compEnvC scope cl C X.env) fp) W0 S elt me) (s0 : Shared := X.s_0) (hs : ∀ x, foldedSetIterable iter X.env x = pure x := by intro _; rfl) :
    ML X W S (.ListComp elt [⟨tg, iter, ifs, 0⟩] scope pos) (mLc mi g mt me (oS.map (·.2))) := by
  obtain ⟨w, pw, qw⟩ := hi.ex
  exact ⟨_, pe_lc hc hN pw (blkOk_by ok) (fun s H C cl fp => (hg s H C cl fp).pg) (fun s H C cl fp => (ht s H C cl fp).run) (fun s H C cl fp => (he s H C cl fp).run) hs, fun B F H σ ρ Q I h => lc_all hv hg qw s0 I h⟩
theorem ms_setLc (i : Nat) {y : Str} {py : Pos} {spos : Pos} {elt tg iter : Expr} {ifs : List Expr} {scope : Scope} {oS : List (Str × Nat)} {mi : Ev → Out (List D)} {g : Ev → D → Option Ev} {t : TG} {mt : Ev → Out Bool} {me : Ev → Out D} (k : knd S i = 0) (hc : X.calm = true) (hN : X.N.Nodup) (hy : X.N[i]? = some y) (hyl : X.env.scope.names.lookup y = some .local)
    (hsw : swapsWith (.ListComp elt [⟨tg, iter, ifs, 0⟩] scope pos) (some (.Name y py)) spos.line X.env = pure true) (hi : MI X W S tg iter mi) (ok : blkC X.N X.env.scope scope oS = true) (hv : (oS.map (·.2)).all (fun i => knd S i == 0) = true)
    (hg : ∀ (s : Shared) (H : Hp) (C : Addr) (cl : List (Str × Addr)) (fp : List Addr), MG (X.blk s H scope (compEnvC scope cl C X.env) fp) S tg t (oS.map (·.2)) g)
    (ht : ∀ (s : Shared) (H : Hp) (C : Addr) (cl : List (Str × Addr)) (fp : List Addr), MTs (X.blk s H scope (compEnvC scope cl C X.env) fp) W0 S ifs mt)
    (he : ∀ (s : Shared) (H : Hp) (C : Addr) (cl : List (Str × Addr)) (fp : List Addr), ME (X.blk s H scope (compEnvC scope cl C X.env) fp) W0 S elt me) (s0 : Shared := X.s_0) (hs : ∀ x, foldedSetIterable iter X.env x = pure x := by intro _; rfl) :
    MS X W S (.Assign [.Name y py] (.ListComp elt [⟨tg, iter, ifs, 0⟩] scope pos) spos) (mSet i (mLst (mLc mi g mt me (oS.map (·.2))))) := by
  obtain ⟨w, pw, qw⟩ := hi.ex
  refine ⟨_, ps_setLc (te := tME X.K X.mg W0 S me) (tt := tMT X.K X.mg W0 S mt) hc hN hy hyl hsw pw (blkOk_by ok) (fun s H C cl fp => (hg s H C cl fp).pg) (fun s H C cl fp => (ht s H C cl fp).run) (fun s H C cl fp => (he s H C cl fp).run) hs, fun B F H σ ρ D I h => ?_⟩
  refine lc_all hv hg qw s0 I ((Sat.bind (Sat.bind h)).mono (fun ds ρ1 h1 => ?_) fun _ _ z => XSo.ex z)
  exact LKo.ofE fun F' H' v I' s' r' => h1 F' H' _ (I'.setSh k r') s'
end
end MW
namespace MW
open PySem PySem.Spec PyProof.Rows L2
variable {gq : Bool}
/-- f: the items and what is given, to what is handed back and the new items -/
def mUpd (i : Nat) (f : List D → List D → Option (D × List D)) (ms : Ev → Out (List D)) : Ev → Out D := fun ρ => (Out.of (rd ρ i) ρ).bind fun _ ρ => (ms ρ).bind fun as ρ1 => match rd ρ1 i with
  | some (.list ds) => match f ds as with
    | some (d, ds') => .ok d (ρ1.set i (some (.list ds')))
    | none => .bad
  | _ => .bad
def MtU (X : Cx) (r : V → List V → Hp → VK → Prop) (f : List D → List D → Option (D × List D)) : Prop := ∀ F H l xs ds vs as d ds' (Q : VK), Same F H → H l = some (.lst xs) → RpL X.K F xs ds → RpL X.K F vs as → f ds as = some (d, ds') → (∀ v ys, Rp X.K F v d → RpL X.K F ys ds' → Q v (upd H l (.lst ys))) → r (.ref l) vs H Q
section
variable {X : Cx} {W : WX} {S : Sg} {pos : Pos}
theorem me_upd (i : Nat) {x : Str} {p apos : Pos} {name : Str} {id : String} {r : V → List V → Hp → VK → Prop} {f : List D → List D → Option (D × List D)} {ms : Ev → Out (List D)} {e0 : Expr} {es : List Expr} {e : Expr} (k : knd S i = 1) (hv : PE X (.Name x p) (tVar i)) (hm : MtU X r f) (ha : MA X W S (e0 :: es) ms)
    (mk : ∀ t, PA X (e0 :: es) t → PE X e (tBM X.K "list" r (tVar i) t)) : ME X W S e (mUpd i f ms) := by
  obtain ⟨t, pt, q⟩ := ha.ex
  refine ⟨_, mk _ pt, fun B F H σ ρ Q I h => ?_⟩
  obtain ⟨d0, e1, h⟩ := sat_of h.bind
  obtain ⟨a, ea, xs0, ds0, _, hF0, hH0, _⟩ := own_lst I k e1
  refine ⟨_, ea, .inl ⟨rfl, xs0, .inl (.inl hH0)⟩, ?_⟩
  refine q B F H σ ρ _ I ((Sat.bind h).mono (fun as ρ1 h1 F1 H1 vs I1 s1 r1 => ?_) fun _ _ z => z)
  split at h1
  · rename_i ds e2
    split at h1
    · rename_i d ds' e3
      obtain ⟨a', ea', xs, ds'', e4, hF, hH, rr⟩ := own_lst I1 k e2
      rw [ea] at ea'
      cases ea'
      cases e4
      exact hm F1 H1 a xs ds vs as d ds' Q I1.same hH rr r1 e3 fun v ys rv ry => h1 F1 _ v (I1.mut (rd_some e2) k ea ry) s1 rv
    · exact h1.elim
  · exact h1.elim
/-- append -/
def fApp : List D → List D → Option (D × List D) := fun ds as => match as with
  | [d] => if ds.length < 16777216 then some (.none, ds ++ [d]) else none
  | _ => none
theorem mtu_append : MtU X rAppend fApp := fun F H l xs ds vs as d ds' Q s hH r rv e k => by
  have hsz := sizeLine_eq
  unfold fApp at e
  split at e
  · rename_i z
    split at e
    · rename_i hl
      cases e
      cases rv with
      | cons r1 rr =>
        cases rr
        exact ⟨l, xs, _, rfl, rfl, hH, by rw [r.len]; omega, k .non _ .non (r.app (.one r1))⟩
    · cases e
  · cases e
theorem me_append (i : Nat) {x : Str} {p apos : Pos} {ms : Ev → Out (List D)} {e0 : Expr} (k : knd S i = 1) (hv : PE X (.Name x p) (tVar i)) (ha : MA X W S [e0] ms)
    (mk : ∀ t, PA X [e0] t → PE X (.Call (.Attribute (.Name x p) "append" apos) [e0] [] pos) (tBM X.K "list" rAppend (tVar i) t)) : ME X W S (.Call (.Attribute (.Name x p) "append" apos) [e0] [] pos) (mUpd i fApp ms) := me_upd (apos := apos) (name := "append") (id := "list.append") i k hv mtu_append ha mk
/-- xs[k] = e, xs one's own -/
def mStore (i : Nat) (me mk : Ev → Out D) : Ev → Out Fl := fun ρ => (me ρ).bind fun d ρ1 => (Out.of (rd ρ1 i) ρ1).bind fun _ ρ1 => (mk ρ1).bind fun e ρ2 => match rd ρ2 i, e with
  | some (.list ds), .int j => match ixN ds.length j with
    | some n => .ok .nx (ρ2.set i (some (.list (ds.set n d))))
    | none => .bad
  | _, _ => .bad
theorem ms_store (i : Nat) {x : Str} {p tpos : Pos} {e ie : Expr} {me mk : Ev → Out D} (k : knd S i = 1) (hv : PE X (.Name x p) (tVar i)) (he : ME X W S e me) (hi : ME X W S ie mk)
    (ha : ∀ v, assign (.Subscript (.Name x p) ie tpos) X.env v = (do
      let ov ← holding [v] (eval (.Name x p) X.env)
      let iv ← holding [v, ov] (eval ie X.env)
      standAt tpos
      holding [v, ov, iv] (setItem ov iv v)
      release [v, ov, iv] []) := by intro _; rfl) (hs : swapsWithSole [.Subscript (.Name x p) ie tpos] e pos.line X.env = pure false := by rfl) (hw : swappedStores [.Subscript (.Name x p) ie tpos] e X.env = pure none := by rfl)
    (h1 : (assignEach [.Subscript (.Name x p) ie tpos] X.env).map (·.2) = [assign (.Subscript (.Name x p) ie tpos) X.env] := by rfl) : MS X W S (.Assign [.Subscript (.Name x p) ie tpos] e pos) (mStore i me mk) := by
  obtain ⟨t, pt, q⟩ := he.ex
  obtain ⟨u, pu, qu⟩ := hi.ex
  refine ⟨_, ps_asg pt (pg_sub hv pu set_list ha) hs hw h1, fun B F H σ ρ D I h => ?_⟩
  refine q B F H σ ρ _ I ((Sat.bind h).mono (fun d ρ1 h1 F1 H1 v I1 s1 r1 => ?_) fun _ _ z => XSo.ex z)
  obtain ⟨d0, e1, h2⟩ := sat_of (Sat.bind h1)
  obtain ⟨a, ea, _⟩ := own_at I1 k e1
  refine ⟨_, ea, ?_⟩
  refine qu B F1 H1 σ ρ1 _ I1 ((Sat.bind h2).mono (fun e ρ2 h3 F2 H2 y I2 s2 r2 => ?_) fun _ _ z => XKo.up s1 (XSo.ex z))
  split at h3
  · rename_i ds j e2
    split at h3
    · rename_i n en
      obtain ⟨a', ea', xs, ds'', e4, hF, hH, rr⟩ := own_lst I2 k e2
      rw [ea] at ea'
      cases ea'
      cases e4
      cases r2
      refine ⟨a, xs, j, n, rfl, rfl, hH, by rw [rr.len]; exact en, h3 F2 _ σ (I2.mut (rd_some e2) k ea (rr.set n (r1.up s2))) (s1.trans s2)⟩
    · exact h3.elim
  · exact h3.elim
def outs (S : Sg) (ρ : Ev) : Ev := (List.range S.np).map fun i => if own S i then ρ.getD i none else none
structure Back (K : Fg) (S : Sg) (B : Base) (vs : List V) (F' H' : Hp) (os : Ev) : Prop where
  len : os.length = S.np
  ext : Ext B F' H'
  same : Same F' H'
  ow : ∀ i a, own S i = true → vs[i]? = some (.ref a) → ∃ d, os[i]? = some (some d) ∧ OwL K F' H' a d
/-- of a def's slots the parameters alone: which of them are lists that are lent -/
def sgOf (os : List Bool) : Sg := ⟨os.map fun b => if b = true then 1 else 0, os.length, [], []⟩
theorem sgOf_knd {os : List Bool} {i : Nat} : knd (sgOf os) i = if os.getD i false = true then 1 else 0 := by
  unfold knd sgOf
  simp only [List.getD_eq_getElem?_getD, List.getElem?_map]
  cases os[i]? with
  | none => rfl
  | some b => cases b <;> rfl
theorem sgOf_own {os : List Bool} {i : Nat} : own (sgOf os) i = os.getD i false := by
  unfold own
  rw [sgOf_knd]
  cases os.getD i false <;> rfl
theorem sgOf_deep {os : List Bool} {i : Nat} : deep (sgOf os) i = false := by
  unfold deep
  rw [sgOf_knd]
  cases os.getD i false <;> rfl
theorem sgOf_ne3 {os : List Bool} {i : Nat} : knd (sgOf os) i ≠ 3 := by
  rw [sgOf_knd]
  cases os.getD i false <;> decide
/-- a def's promise, by its mirror m: the arguments' data to the result's, and what has become of the lists handed in -/
def spM (K : Fg) (mg : Str → Option Value) (os : List Bool) (m : List D → Out D) : Sp := fun vs H Q E => ∃ B F ds, vs.length = os.length ∧ SInv K (sgOf os) B (vs.map some) F H (ds.map some) ∧
  Sat (m ds) (fun d zs => ∀ F' H' v, Back K (sgOf os) B vs F' H' zs → Same F F' → Rp K F' v d → Q v H') (fun c zs => ∀ F' H' C, Back K (sgOf os) B vs F' H' zs → Same F F' → mg c = some (.ref C) → E (.ref C) none H')
def chk (S : Sg) (os : Ev) : Bool := (List.range S.np).all fun i => !own S i || (os.getD i none).isSome
def mDef (S : Sg) (n : Nat) (mb : Ev → Out Fl) : List D → Out D := fun ds => match mb (ds.map some ++ List.replicate (n - ds.length) none) with
  | .ok .nx ρ => if chk S (outs S ρ) = true then .ok .none (outs S ρ) else .bad
  | .ok (.rt d) ρ => if chk S (outs S ρ) = true then .ok d (outs S ρ) else .bad
  | .ok .bk ρ => .bad
  | .ok .ct ρ => .bad
  | .err c ρ => if chk S (outs S ρ) = true then .err c (outs S ρ) else .bad
  | .bad => .bad
theorem nil_ts {K : Fg} {S : Sg} {os : List Bool} {B : Base} {F H : Hp} {σ : Sts} {ρ : Ev} (I : SInv K (sgOf os) B σ F H ρ) (h : S.T = []) : B.T = S.T := I.ts.trans h.symm
theorem start_sinv {K : Fg} {S : Sg} {os : List Bool} {B : Base} {F H : Hp} {vs : List V} {ds : List D} {N : List Str} (hs : os.length = S.np) (hk : (List.range S.np).all (fun i => knd S i == if os.getD i false = true then 1 else 0) = true) (hl : vs.length = S.np) (hT : B.T = S.T) (I : SInv K (sgOf os) B (vs.map some) F H (ds.map some)) :
    SInv K S B (L2.start N vs) F H (ds.map some ++ List.replicate (N.length - ds.length) none) := by
  have hd : ds.length = vs.length := by have := I.len; simpa using this
  have kn : ∀ i, i < S.np → knd S i = knd (sgOf os) i := fun i hi => by
    have := List.all_eq_true.mp hk i (List.mem_range.mpr hi)
    rw [sgOf_knd]
    exact eq_of_beq this
  have at1 : ∀ (i : Nat) (d : D), (ds.map some ++ List.replicate (N.length - ds.length) none)[i]? = some (some d) → (ds.map some)[i]? = some (some d) := fun i d e => by
    rcases Nat.lt_or_ge i (ds.map some).length with h | h
    · rw [List.getElem?_append_left h] at e; exact e
    · rw [List.getElem?_append_right h, List.getElem?_replicate] at e
      split at e <;> cases e
  have lt_ : ∀ (i : Nat) (d : D), (ds.map some)[i]? = some (some d) → i < S.np := fun i d e => by
    have := (List.getElem?_eq_some_iff.mp e).1
    rw [List.length_map] at this
    omega
  have at2 : ∀ (i : Nat) (v : V), (vs.map some)[i]? = some (some v) → (L2.start N vs)[i]? = some (some v) := fun i v e => by
    unfold L2.start
    rw [List.getElem?_append_left (List.getElem?_eq_some_iff.mp e).1]
    exact e
  have at3 : ∀ (i : Nat) (a : Addr) (d : D), (ds.map some)[i]? = some (some d) → (L2.start N vs)[i]? = some (some (.ref a)) → (vs.map some)[i]? = some (some (.ref a)) := fun i a d e h => by
    have hi : i < (vs.map some).length := by
      have := (List.getElem?_eq_some_iff.mp e).1
      simpa [hd] using this
    unfold L2.start at h
    rw [List.getElem?_append_left hi] at h
    exact h
  have ownE : ∀ i, i < S.np → own S i = own (sgOf os) i ∧ deep S i = deep (sgOf os) i := fun i hi => by
    unfold own deep
    rw [kn i hi]
    exact ⟨rfl, rfl⟩
  have held : ∀ {i b}, Held S (L2.start N vs) H (ds.map some ++ List.replicate (N.length - ds.length) none) i b → Held (sgOf os) (vs.map some) H (ds.map some) i b := fun {i b} ⟨k, ⟨d, e⟩, a, e1, h⟩ => by
    have hi := lt_ i d (at1 i d e)
    exact ⟨by rw [← (ownE i hi).1]; exact k, ⟨d, at1 i d e⟩, a, at3 i a d (at1 i d e) e1, by rw [← (ownE i hi).2]; exact h⟩
  refine ⟨by unfold L2.start; simp [hd], I.same, I.ext, fun i d e k => ?_, fun i d e k => ?_, fun i j b h1 h2 => I.nd i j b (held h1) (held h2), fun i d e k => ?_, fun i hi k => ?_, hT⟩
  · have hi := lt_ i d (at1 i d e)
    obtain ⟨v, e1, r⟩ := I.sh i d (at1 i d e) (by rw [← kn i hi]; exact k)
    exact ⟨v, at2 i v e1, r⟩
  · have hi := lt_ i d (at1 i d e)
    obtain ⟨a, bs, e1, w, o⟩ := I.ow i d (at1 i d e) (by rw [← (ownE i hi).1]; exact k)
    refine ⟨a, bs, at2 i _ e1, by rw [kn i hi]; exact w, fun b hb => ?_⟩
    rcases o b hb with q | q
    · exact .inl ⟨q.1, fun z => absurd hi (by omega)⟩
    · exact .inr q
  · have hi := lt_ i d (at1 i d e)
    rw [kn i hi] at k
    exact absurd k sgOf_ne3
  · rw [← I.pin i (by show i < os.length; omega) (by rw [← (ownE i hi).1]; exact k)]
    unfold L2.start
    rw [List.getElem?_append_left (by simp; omega)]
theorem outs_at {S : Sg} {ρ : Ev} {i : Nat} (hi : i < S.np) (k : own S i = true) : (outs S ρ)[i]? = some (ρ.getD i none) := by
  unfold outs
  rw [List.getElem?_map, List.getElem?_range hi]
  show some (if own S i = true then ρ.getD i none else none) = _
  rw [if_pos k]
end
section
variable {P : Program} {w : World} {K : PySem.W.Frag} {mg : Str → Option Value} {base : Heap}
theorem def_sat {X : Cx} {S : Sg} {os : List Bool} {N : List Str} {mb : Ev → Out Fl} {t : TS} {E : XK} {Q : VK} {vs : List V} {ds : List D} {B : Base} {F H : Hp} (hos : os.length = S.np) (hks : (List.range S.np).all (fun i => knd S i == if os.getD i false = true then 1 else 0) = true) (hl : vs.length = os.length) (hT : B.T = S.T)
    (q : ∀ B F H σ ρ D, SInv X.K S B σ F H ρ → Sat (mb ρ) (FKo X.K S B F D) (XSo X (fun c d _ H => E c d H) S B F) → t D σ H) (I : SInv X.K (sgOf os) B (vs.map some) F H (ds.map some))
    (hs : Sat (mDef S N.length mb ds) (fun d zs => ∀ F' H' v, Back X.K (sgOf os) B vs F' H' zs → Same F F' → Rp X.K F' v d → Q v H') (fun c zs => ∀ F' H' C, Back X.K (sgOf os) B vs F' H' zs → Same F F' → X.mg c = some (.ref C) → E (.ref C) none H')) : t { nx := fun _ H' => Q .non H', rt := Q } (L2.start N vs) H := by
  refine q B F H _ _ _ (start_sinv (N := N) hos hks (by omega) hT I) ?_
  have kn : ∀ i, i < S.np → knd S i = knd (sgOf os) i := fun i hi => by
    have := List.all_eq_true.mp hks i (List.mem_range.mpr hi)
    rw [sgOf_knd]
    exact eq_of_beq this
  have back : ∀ {F' H' : Hp} {σ' : Sts} {ρ' : Ev}, SInv X.K S B σ' F' H' ρ' → chk S (outs S ρ') = true → Back X.K (sgOf os) B vs F' H' (outs S ρ') := fun {F' H' σ' ρ'} J ha => by
    refine ⟨by show (outs S ρ').length = os.length; simp [outs, hos], J.ext, J.same, fun i a k e => ?_⟩
    have hi : i < S.np := by
      have := (List.getElem?_eq_some_iff.mp e).1
      omega
    have k1 : knd S i = 1 := by
      rw [kn i hi, sgOf_knd]
      rw [sgOf_own] at k
      rw [k]; rfl
    have h1 := List.all_eq_true.mp ha i (List.mem_range.mpr hi)
    rw [own_of1 k1] at h1
    have h2 : ((outs S ρ').getD i none).isSome = true := by simpa using h1
    have ho := outs_at (ρ := ρ') hi (own_of1 k1)
    rw [List.getD_eq_getElem?_getD, ho] at h2
    obtain ⟨d, hd⟩ := Option.isSome_iff_exists.mp (show (ρ'.getD i none).isSome = true from h2)
    obtain ⟨a', e1, ow⟩ := own_lst J k1 hd
    have hp := J.pin i hi (own_of1 k1)
    have hp0 := I.pin i (by show i < os.length; omega) k
    have : σ'[i]? = some (some (.ref a)) := by
      rw [hp, ← hp0, List.getElem?_map, e]
      rfl
    rw [this] at e1
    cases e1
    exact ⟨d, by rw [ho, hd], ow⟩
  cases e1 : mb (ds.map some ++ List.replicate (N.length - ds.length) none) with
  | bad =>
    have e2 : mDef S N.length mb ds = .bad := by unfold mDef; rw [e1]
    rw [e2] at hs
    exact hs.elim
  | err c ρ' =>
    have e2 : mDef S N.length mb ds = if chk S (outs S ρ') = true then .err c (outs S ρ') else .bad := by unfold mDef; rw [e1]
    rw [e2] at hs
    by_cases ha : chk S (outs S ρ') = true
    · rw [if_pos ha] at hs
      exact fun F' H' σ' C J s' hC => hs F' H' C (back J ha) s' hC
    · rw [if_neg ha] at hs
      exact hs.elim
  | ok fl ρ' =>
    cases fl with
    | bk =>
      have e2 : mDef S N.length mb ds = .bad := by unfold mDef; rw [e1]
      rw [e2] at hs
      exact hs.elim
    | ct =>
      have e2 : mDef S N.length mb ds = .bad := by unfold mDef; rw [e1]
      rw [e2] at hs
      exact hs.elim
    | nx =>
      have e2 : mDef S N.length mb ds = if chk S (outs S ρ') = true then .ok .none (outs S ρ') else .bad := by unfold mDef; rw [e1]
      rw [e2] at hs
      by_cases ha : chk S (outs S ρ') = true
      · rw [if_pos ha] at hs
        exact fun F' H' σ' J s' => hs F' H' .non (back J ha) s' .non
      · rw [if_neg ha] at hs
        exact hs.elim
    | rt d =>
      have e2 : mDef S N.length mb ds = if chk S (outs S ρ') = true then .ok d (outs S ρ') else .bad := by unfold mDef; rw [e1]
      rw [e2] at hs
      by_cases ha : chk S (outs S ρ') = true
      · rw [if_pos ha] at hs
        exact fun F' H' σ' J s' v rv => hs F' H' v (back J ha) s' rv
      · rw [if_neg ha] at hs
        exact hs.elim
theorem def_ok {x qual : Str} {st : Stmt} {f : Addr} {fd : FuncData} {N ps : List Str} {k : Nat} (S : Sg) (os : List Bool) {mb : Ev → Out Fl} (Fn : L2.Fun K x qual st f fd) (Sc : FnScope N ps (defScope st)) (hnp : ps.length = S.np) (hos : os.length = S.np) (hks : (List.range S.np).all (fun i => knd S i == if os.getD i false = true then 1 else 0) = true)
    (hbody : ∀ (cdv : Value) (A : Around) (outer : List Env) (s : Shared) (H : Hp) (E : XK), RoomQ gq k (A.deeper (envOfC qual (defScope st) s.heap.objs.size f cdv)) →
      MSs (cxOf (L2.CX P w) P w K mg base N qual (defScope st) f cdv A outer s H E) (fun c d _ H => E c d H) S (defBody st) mb) (hTn : S.T = [] := by rfl) :
    FnQ gq P w K mg base (k + 1) f fd ps (spM K mg os (mDef S N.length mb)) := by
  refine FnQ.of Fn Sc (fun vs H Q E h => ?_) (fun cdv A outer s H vs Q E hr h => ?_)
  · obtain ⟨_, _, _, hl, _⟩ := h
    rw [hl, hnp, hos]
  · obtain ⟨B, F, ds, hl, I, hs⟩ := h
    obtain ⟨t, p, q⟩ := (hbody cdv A outer s H E hr).ex
    exact ⟨t, p, def_sat hos hks hl (nil_ts I hTn) q I hs⟩
end
/-- an argument list: values, and lists of one's own that are lent -/
inductive ArgL (K : Fg) (σ : Sts) (F : Hp) : List (Option Nat) → List V → List D → Prop
  | nil : ArgL K σ F [] [] []
  | val {v : V} {d : D} {ks : List (Option Nat)} {vs : List V} {ds : List D} : Rp K F v d → ArgL K σ F ks vs ds → ArgL K σ F (none :: ks) (v :: vs) (d :: ds)
  | lent {i : Nat} {v : V} {d : D} {ks : List (Option Nat)} {vs : List V} {ds : List D} : σ[i]? = some (some v) → ArgL K σ F ks vs ds → ArgL K σ F (some i :: ks) (v :: vs) (d :: ds)
theorem ArgL.up {K : Fg} {σ : Sts} {F F' : Hp} (s : Same F F') : ∀ {ks : List (Option Nat)} {vs : List V} {ds : List D}, ArgL K σ F ks vs ds → ArgL K σ F' ks vs ds
  | _, _, _, .nil => .nil
  | _, _, _, .val r h => .val (r.up s) (h.up s)
  | _, _, _, .lent e h => .lent e (h.up s)
structure MAc (X : Cx) (W : WX) (S : Sg) (es : List Expr) (ks : List (Option Nat)) (m : Ev → Out (List D)) : Prop where
  ex : ∃ t : TA, PA X es t ∧ ∀ B F H σ ρ Q, SInv X.K S B σ F H ρ → Sat (m ρ) (fun ds ρ' => ∀ F' H' vs, SInv X.K S B σ F' H' ρ' → Same F F' → ArgL X.K σ F' ks vs ds → Q vs H') (XKo X W S B σ F) → t σ H Q
section
variable {X : Cx} {W : WX} {S : Sg} {pos : Pos} {a : Expr} {es : List Expr} {ks : List (Option Nat)} {ma : Ev → Out D} {mr : Ev → Out (List D)}
theorem mac_nil : MAc X W S [] [] mNil := ⟨_, pa_nil, fun B F H σ ρ Q I h => h F H [] I (Same.refl _) .nil⟩
theorem mac_cons (ha : ME X W S a ma) (hr : MAc X W S es ks mr) (hs : starEach (a :: es) X.env = (false, eval a X.env) :: starEach es X.env := by rfl) : MAc X W S (a :: es) (none :: ks) (mCons ma mr) := by
  obtain ⟨t, p, q⟩ := ha.ex
  obtain ⟨t', p', q'⟩ := hr.ex
  refine ⟨_, pa_cons p p' hs, fun B F H σ ρ Q I h => ?_⟩
  refine q B F H σ ρ _ I (h.bind.mono (fun d ρ1 h1 F1 H1 x I1 s1 r1 => ?_) fun _ _ z => z)
  refine q' B F1 H1 σ ρ1 _ I1 (h1.bind.mono (fun ds ρ2 h2 F2 H2 xs I2 s2 r2 => ?_) fun _ _ z => XKo.up s1 z)
  exact h2 F2 H2 (x :: xs) I2 (s1.trans s2) (.val (r1.up s2) r2)
def mLend (i : Nat) (mr : Ev → Out (List D)) : Ev → Out (List D) := fun ρ => (Out.of (rd ρ i) ρ).bind fun _ ρ => (mr ρ).bind fun ds ρ2 => .ok (.none :: ds) ρ2
theorem mac_lend (i : Nat) {x : Str} {p : Pos} (k : knd S i = 1) (hv : PE X (.Name x p) (tVar i)) (hr : MAc X W S es ks mr) (hs : starEach (.Name x p :: es) X.env = (false, eval (.Name x p) X.env) :: starEach es X.env := by rfl) : MAc X W S (.Name x p :: es) (some i :: ks) (mLend i mr) := by
  obtain ⟨t', p', q'⟩ := hr.ex
  refine ⟨_, pa_cons hv p' hs, fun B F H σ ρ Q I h => ?_⟩
  obtain ⟨d0, e1, h⟩ := sat_of h.bind
  obtain ⟨b, eb, _⟩ := own_at I k e1
  refine ⟨_, eb, ?_⟩
  refine q' B F H σ ρ _ I ((Sat.bind h).mono (fun ds ρ2 h2 F2 H2 xs I2 s2 r2 => ?_) fun _ _ z => z)
  exact h2 F2 H2 _ I2 s2 (.lent eb r2)
end
def resolve (ρ : Ev) : List (Option Nat) → List D → Option (List D)
  | none :: ks, d :: ds => (resolve ρ ks ds).map (d :: ·)
  | some i :: ks, _ :: ds => (rd ρ i).bind fun x => (resolve ρ ks ds).map (x :: ·)
  | _, _ => some []
def wback : List (Option Nat) → Ev → Ev → Ev
  | none :: ks, _ :: os, ρ => wback ks os ρ
  | some i :: ks, o :: os, ρ => wback ks os (ρ.set i o)
  | _, _, ρ => ρ
def mCallD (f : List D → Out D) (ks : List (Option Nat)) (ms : Ev → Out (List D)) : Ev → Out D := fun ρ => (ms ρ).bind fun ds ρ1 => (Out.of (resolve ρ1 ks ds) ρ1).bind fun as ρ1 => match f as with
  | .ok d os => .ok d (wback ks os ρ1)
  | .err c os => .err c (wback ks os ρ1)
  | .bad => .bad
theorem wback_len : ∀ {ks : List (Option Nat)} {os ρ : Ev}, (wback ks os ρ).length = ρ.length
  | [], _, _ => by unfold wback; rfl
  | none :: ks, [], _ => by unfold wback; rfl
  | some i :: ks, [], _ => by unfold wback; rfl
  | none :: ks, _ :: os, ρ => by unfold wback; exact wback_len
  | some i :: ks, o :: os, ρ => by unfold wback; rw [wback_len, List.length_set]
theorem wback_out : ∀ {ks : List (Option Nat)} {os ρ : Ev} {i : Nat}, some i ∉ ks → (wback ks os ρ)[i]? = ρ[i]?
  | [], _, _, _, _ => by unfold wback; rfl
  | none :: ks, [], _, _, _ => by unfold wback; rfl
  | some j :: ks, [], _, _, _ => by unfold wback; rfl
  | none :: ks, _ :: os, ρ, i, h => by unfold wback; exact wback_out fun z => h (List.mem_cons_of_mem _ z)
  | some j :: ks, o :: os, ρ, i, h => by
    unfold wback
    rw [wback_out fun z => h (List.mem_cons_of_mem _ z), List.getElem?_set_ne]
    exact fun z => h (by rw [z]; exact List.mem_cons_self)
theorem wback_in : ∀ {ks : List (Option Nat)} {os ρ : Ev} {i j : Nat} {o : Option D}, (ks.filterMap id).Nodup → ks[j]? = some (some i) → os[j]? = some o → i < ρ.length → (wback ks os ρ)[i]? = some o
  | [], _, _, _, _, _, _, h, _, _ => by simp at h
  | none :: ks, [], _, _, _, _, _, _, h, _ => by simp at h
  | some _ :: ks, [], _, _, _, _, _, _, h, _ => by simp at h
  | none :: ks, _ :: os, ρ, i, 0, o, nd, h, _, _ => by simp at h
  | none :: ks, _ :: os, ρ, i, j + 1, o, nd, h, h2, hl => by
    unfold wback
    exact wback_in (by simpa using nd) (by simpa using h) (by simpa using h2) hl
  | some i' :: ks, o' :: os, ρ, i, 0, o, nd, h, h2, hl => by
    simp at h h2
    subst h h2
    unfold wback
    have nd' : (i' :: ks.filterMap id).Nodup := by simpa using nd
    rw [wback_out, List.getElem?_set_self hl]
    intro z
    exact (List.nodup_cons.mp nd').1 (List.mem_filterMap.mpr ⟨_, z, rfl⟩)
  | some i' :: ks, o' :: os, ρ, i, j + 1, o, nd, h, h2, hl => by
    unfold wback
    have nd' : (i' :: ks.filterMap id).Nodup := by simpa using nd
    exact wback_in (List.nodup_cons.mp nd').2 (by simpa using h) (by simpa using h2) (by rw [List.length_set]; exact hl)
theorem ks_inj : ∀ {ks : List (Option Nat)} {i j j' : Nat}, (ks.filterMap id).Nodup → ks[j]? = some (some i) → ks[j']? = some (some i) → j = j'
  | [], _, _, _, _, h, _ => by simp at h
  | none :: ks, i, 0, _, nd, h, _ => by simp at h
  | none :: ks, i, _ + 1, 0, nd, _, h => by simp at h
  | none :: ks, i, j + 1, j' + 1, nd, h, h' => by
    have := ks_inj (ks := ks) (i := i) (j := j) (j' := j') (by simpa using nd) (by simpa using h) (by simpa using h')
    omega
  | some a :: ks, i, 0, 0, nd, _, _ => rfl
  | some a :: ks, i, 0, j' + 1, nd, h, h' => by
    have nd' : (a :: ks.filterMap id).Nodup := by simpa using nd
    simp at h
    subst h
    exact absurd (List.mem_filterMap.mpr ⟨some a, List.mem_of_getElem? (by simpa using h'), rfl⟩ : a ∈ ks.filterMap id) (List.nodup_cons.mp nd').1
  | some a :: ks, i, j + 1, 0, nd, h, h' => by
    have nd' : (a :: ks.filterMap id).Nodup := by simpa using nd
    simp at h'
    subst h'
    exact absurd (List.mem_filterMap.mpr ⟨some a, List.mem_of_getElem? (by simpa using h), rfl⟩ : a ∈ ks.filterMap id) (List.nodup_cons.mp nd').1
  | some a :: ks, i, j + 1, j' + 1, nd, h, h' => by
    have nd' : (a :: ks.filterMap id).Nodup := by simpa using nd
    have := ks_inj (ks := ks) (i := i) (j := j) (j' := j') (List.nodup_cons.mp nd').2 (by simpa using h) (by simpa using h')
    omega
section
variable {K : Fg} {S : Sg} {B : Base} {σ : Sts} {F H : Hp} {ρ : Ev}
/-- what is known of the arguments at the call -/
theorem argL_get : ∀ {ks : List (Option Nat)} {vs : List V} {ds as : List D}, ArgL K σ F ks vs ds → resolve ρ ks ds = some as → vs.length = ks.length ∧ as.length = ks.length ∧
    ∀ (j : Nat) (d : D), as[j]? = some d → (ks[j]? = some none ∧ ∃ v, vs[j]? = some v ∧ Rp K F v d) ∨ (∃ i v, ks[j]? = some (some i) ∧ vs[j]? = some v ∧ σ[i]? = some (some v) ∧ rd ρ i = some d)
  | _, _, _, _, .nil, h => by
    cases h
    exact ⟨rfl, rfl, fun j d e => by simp at e⟩
  | _, _, _, _, .val (ks := ks) (ds := ds) r h, e => by
    unfold resolve at e
    obtain ⟨as', e1, rfl⟩ := Option.map_eq_some_iff.mp e
    obtain ⟨l1, l2, at_⟩ := argL_get h e1
    refine ⟨by simp [l1], by simp [l2], fun j d e2 => ?_⟩
    cases j with
    | zero =>
      simp at e2
      subst e2
      exact .inl ⟨rfl, _, rfl, r⟩
    | succ j => simpa using at_ j d (by simpa using e2)
  | _, _, _, _, .lent (i := i) (v := v) (ks := ks) (ds := ds) hv h, e => by
    unfold resolve at e
    obtain ⟨x, e0, e⟩ := Option.bind_eq_some_iff.mp e
    obtain ⟨as', e1, rfl⟩ := Option.map_eq_some_iff.mp e
    obtain ⟨l1, l2, at_⟩ := argL_get h e1
    refine ⟨by simp [l1], by simp [l2], fun j d e2 => ?_⟩
    cases j with
    | zero =>
      simp at e2
      subst e2
      exact .inr ⟨i, v, rfl, rfl, hv, e0⟩
    | succ j => simpa using at_ j d (by simpa using e2)
def callB (os : List Bool) (vs : List V) (as : List D) (F H : Hp) : Base := ⟨fun a => ∃ j, Held (sgOf os) (vs.map some) H (as.map some) j a, fun _ => False, F, H, vs.map some, []⟩
variable {os : List Bool}
theorem own_ks {ks : List (Option Nat)} {j : Nat} (hk : os = ks.map Option.isSome) : own (sgOf os) j = true ↔ ∃ i, ks[j]? = some (some i) := by
  rw [sgOf_own, hk, List.getD_eq_getElem?_getD, List.getElem?_map]
  cases e : ks[j]? with
  | none => simp
  | some o => cases o <;> simp
theorem heldP {vs : List V} {as : List D} {j : Nat} {a : Addr} (h : Held (sgOf os) (vs.map some) H (as.map some) j a) : own (sgOf os) j = true ∧ (∃ d, as[j]? = some d) ∧ vs[j]? = some (.ref a) := by
  obtain ⟨k, ⟨d, e⟩, c, e1, h⟩ := h
  have hc : a = c := by
    rcases h with z | ⟨z, _⟩
    · exact z
    · rw [sgOf_deep] at z; cases z
  subst hc
  rw [List.getElem?_map] at e e1
  obtain ⟨d', e, e'⟩ := Option.map_eq_some_iff.mp e
  obtain ⟨v', e1, e1'⟩ := Option.map_eq_some_iff.mp e1
  cases e1'
  exact ⟨k, ⟨d', e⟩, e1⟩
theorem call_start {ks : List (Option Nat)} {vs : List V} {ds as : List D} (I : SInv K S B σ F H ρ) (hA : ArgL K σ F ks vs ds) (hr : resolve ρ ks ds = some as) (hk : os = ks.map Option.isSome) (ho : ks.all (fun k => k.all (fun i => knd S i == 1)) = true) (nd : (ks.filterMap id).Nodup) :
    vs.length = os.length ∧ SInv K (sgOf os) (callB os vs as F H) (vs.map some) F H (as.map some) := by
  obtain ⟨l1, l2, at_⟩ := argL_get hA hr
  have own_of : ∀ {j i : Nat}, ks[j]? = some (some i) → knd S i = 1 := fun {j i} e => by
    have := List.all_eq_true.mp ho _ (List.mem_of_getElem? e)
    simpa using this
  have pick : ∀ {j : Nat} {a : Addr}, Held (sgOf os) (vs.map some) H (as.map some) j a → ∃ i, ks[j]? = some (some i) ∧ Held S σ H ρ i a := fun {j a} h => by
    obtain ⟨k, ⟨d, e⟩, e1⟩ := heldP h
    rcases at_ j d e with ⟨ek, _⟩ | ⟨i, v, ek, ev, es, er⟩
    · obtain ⟨i, ei⟩ := (own_ks (j := j) hk).mp k
      rw [ek] at ei; cases ei
    · rw [ev] at e1
      cases e1
      exact ⟨i, ek, I.topHeld (own_of1 (own_of ek)) ⟨d, rd_some er⟩ es⟩
  have hl : os.length = ks.length := by rw [hk, List.length_map]
  refine ⟨by omega, by simp [l1, l2], I.same, ⟨Same.refl _, fun _ _ e _ => e, fun _ e => e, fun _ _ e => .inl e, (nofun : ∀ p ∈ ([] : List NdefX.NTab), _), (nofun : ∀ p ∈ ([] : List NdefX.NTab), _), (nofun : ∀ p ∈ ([] : List NdefX.NTab), _)⟩, fun j d e k => ?_, fun j d e k => ?_, fun j j' a h1 h2 => ?_, fun j d e k => absurd k sgOf_ne3, fun _ _ _ => rfl, rfl⟩
  · rw [List.getElem?_map] at e
    obtain ⟨d', e, e'⟩ := Option.map_eq_some_iff.mp e
    cases e'
    rcases at_ j d e with ⟨_, v, ev, r⟩ | ⟨i, v, ek, _⟩
    · exact ⟨v, by rw [List.getElem?_map, ev]; rfl, r⟩
    · have := (own_ks (j := j) hk).mpr ⟨i, ek⟩
      rw [own_of0 k] at this; cases this
  · have e0 := e
    rw [List.getElem?_map] at e
    obtain ⟨d', e, e'⟩ := Option.map_eq_some_iff.mp e
    cases e'
    rcases at_ j d e with ⟨ek, _⟩ | ⟨i, v, ek, ev, es, er⟩
    · obtain ⟨i, ei⟩ := (own_ks (j := j) hk).mp k
      rw [ek] at ei; cases ei
    · obtain ⟨a, e1, w⟩ := own_lst I (own_of ek) er
      rw [es] at e1
      cases e1
      have e2 : (vs.map some)[j]? = some (some (V.ref a)) := by rw [List.getElem?_map, ev]; rfl
      refine ⟨a, [], e2, ⟨by simp, by rw [sgOf_knd, if_pos (by rw [← sgOf_own]; exact k)]; exact ⟨rfl, w⟩⟩, fun b hb => ?_⟩
      have : b = a := by simpa using hb
      subst this
      exact .inl ⟨⟨j, k, ⟨d, e0⟩, b, e2, .inl rfl⟩, fun hz => absurd (List.getElem?_eq_some_iff.mp ev).1 (by have : (sgOf os).np = os.length := rfl; omega)⟩
  · obtain ⟨i, ei, hi⟩ := pick h1
    obtain ⟨i', ei', hi'⟩ := pick h2
    have := I.nd i i' a hi hi'
    subst this
    exact ks_inj nd ei ei'
theorem call_back2 {ks : List (Option Nat)} {vs : List V} {ds as : List D} {F' H' : Hp} {zs : Ev} (I : SInv K S B σ F H ρ) (hA : ArgL K σ F ks vs ds) (hr : resolve ρ ks ds = some as) (hk : os = ks.map Option.isSome) (ho : ks.all (fun k => k.all (fun i => knd S i == 1)) = true) (nd : (ks.filterMap id).Nodup)
    (b : Back K (sgOf os) (callB os vs as F H) vs F' H' zs) : SInv K S B σ F' H' (wback ks zs ρ) ∧ ∀ i c, Held S σ H' (wback ks zs ρ) i c → Held S σ H ρ i c := by
  obtain ⟨l1, l2, at_⟩ := argL_get hA hr
  have own_of : ∀ {j i : Nat}, ks[j]? = some (some i) → knd S i = 1 := fun {j i} e => by
    have := List.all_eq_true.mp ho _ (List.mem_of_getElem? e)
    simpa using this
  -- a lent list stands at its slot
  have lent : ∀ {j i : Nat}, ks[j]? = some (some i) → ∃ a d, σ[i]? = some (some (.ref a)) ∧ Held S σ H ρ i a ∧ vs[j]? = some (.ref a) ∧ as[j]? = some d ∧ ρ[i]? = some (some d) := fun {j i} e => by
    have hj : j < as.length := by rw [l2]; exact (List.getElem?_eq_some_iff.mp e).1
    obtain ⟨d, ed⟩ : ∃ d, as[j]? = some d := ⟨as[j], by simp [hj]⟩
    rcases at_ j d ed with ⟨ek, _⟩ | ⟨i', v, ek, ev, es, er⟩
    · rw [e] at ek; cases ek
    · rw [e] at ek
      cases ek
      obtain ⟨a, e1, w⟩ := own_lst I (own_of e) er
      rw [es] at e1
      cases e1
      exact ⟨a, d, es, I.topHeld (own_of1 (own_of e)) ⟨d, rd_some er⟩ es, ev, ed, rd_some er⟩
  have isO : ∀ {a : Addr}, (callB os vs as F H).O a → ∃ j i, ks[j]? = some (some i) ∧ Held S σ H ρ i a := fun {a} ⟨j, h⟩ => by
    obtain ⟨k, _, e1⟩ := heldP h
    obtain ⟨i, ei⟩ := (own_ks (j := j) hk).mp k
    obtain ⟨a', d, _, h, ev, _⟩ := lent ei
    rw [ev] at e1
    cases e1
    exact ⟨j, i, ei, h⟩
  have hs' : ∀ b o, H b = some o → ¬ (callB os vs as F H).O b → H' b = some o := b.ext.hs
  -- what is not lent stays
  have stay : ∀ {i c}, some i ∉ ks → Held S σ H ρ i c → H' c = H c ∧ F' c = none := fun {i c} hi h => by
    obtain ⟨hF, hH, _⟩ := I.heldAt h
    have nO : ¬ (callB os vs as F H).O c := fun z => by
      obtain ⟨j, i', hj, h'⟩ := isO z
      have := I.nd i i' c h h'
      subst this
      exact hi (List.mem_iff_getElem?.mpr ⟨j, hj⟩)
    obtain ⟨o, eo⟩ := Option.ne_none_iff_exists'.mp hH
    refine ⟨by rw [eo]; exact hs' c o eo nO, ?_⟩
    cases z : F' c with
    | none => rfl
    | some o =>
      rcases b.ext.fr c o z with y | y | y
      · have y : F c = some o := y
        rw [hF] at y; cases y
      · have y : H c = none := y
        exact absurd y hH
      · exact y.elim
  have set_ : ∀ (i : Nat), (∃ d, (wback ks zs ρ)[i]? = some (some d)) → ∃ d, ρ[i]? = some (some d) := fun i ⟨d, e⟩ => by
    by_cases hi : some i ∈ ks
    · obtain ⟨j, hj⟩ := List.mem_iff_getElem?.mp hi
      obtain ⟨_, d, _, _, _, _, er⟩ := lent hj
      exact ⟨d, er⟩
    · rw [wback_out hi] at e; exact ⟨d, e⟩
  have slot : ∀ {i : Nat} {c : Addr}, Held S σ H' (wback ks zs ρ) i c → Held S σ H ρ i c := fun {i c} ⟨k, hd, a, e1, h⟩ => by
    refine ⟨k, set_ i hd, a, e1, ?_⟩
    rcases h with h | ⟨dp, xs, e2, m⟩
    · exact .inl h
    · by_cases hi : some i ∈ ks
      · obtain ⟨j, hj⟩ := List.mem_iff_getElem?.mp hi
        rw [deep_of1 (own_of hj)] at dp; cases dp
      · exact .inr ⟨dp, xs, by rw [← (stay hi (I.topHeld k (set_ i hd) e1)).1]; exact e2, m⟩
  refine ⟨?_, fun i c h => slot h⟩
  refine ⟨by rw [wback_len]; exact I.len, b.same, ⟨I.ext.fs.trans b.ext.fs, fun c o e n => ?_, fun c e => I.ext.st c (b.ext.st c e), fun c o e => ?_, tabs_keep I.ext.tb fun c o e n => hs' c o e fun z => (let ⟨_, _, _, h⟩ := isO z; n (I.heldSoft h o e)), I.ext.to, fun q hq => ?_⟩, fun i d e k => ?_, fun i d e k => ?_, fun i j a h1 h2 => I.nd i j a (slot h1) (slot h2), fun i d e k => ?_, I.pin, I.ts⟩
  · refine hs' c o (I.ext.hs c o e n) fun z => ?_
    obtain ⟨j, i, _, h⟩ := isO z
    rcases I.out h with q | q
    · exact n q.1
    · rw [q] at e; cases e
  · rcases b.ext.fr c o e with q | q | q
    · exact I.ext.fr c o q
    · exact .inr (.inl (I.ext.st c q))
    · exact q.elim
  · obtain ⟨ps, ep⟩ := tabs_at I.ext.tb hq
    cases z : F' q.1 with
    | none => rfl
    | some o =>
      rcases b.ext.fr _ o z with y | y | y
      · have y : F q.1 = some o := y
        rw [I.ext.tf q hq] at y; cases y
      · have y : H q.1 = none := y
        rw [ep] at y; cases y
      · exact y.elim
  · have hi : some i ∉ ks := fun z => by
      obtain ⟨j, hj⟩ := List.mem_iff_getElem?.mp z
      rw [own_of hj] at k; cases k
    rw [wback_out hi] at e
    obtain ⟨v, e1, r⟩ := I.sh i d e k
    exact ⟨v, e1, r.up b.ext.fs⟩
  · by_cases hi : some i ∈ ks
    · obtain ⟨j, hj⟩ := List.mem_iff_getElem?.mp hi
      obtain ⟨a, d0, es, h, ev, _, er⟩ := lent hj
      obtain ⟨d', eo, w⟩ := b.ow j a ((own_ks hk).mpr ⟨i, hj⟩) ev
      have hil : i < ρ.length := (List.getElem?_eq_some_iff.mp er).1
      rw [wback_in nd hj eo hil] at e
      cases e
      refine ⟨a, [], es, ⟨by simp, by rw [own_of hj]; exact ⟨rfl, w⟩⟩, fun c hc => ?_⟩
      have : c = a := by simpa using hc
      subst this
      exact I.out h
    · rw [wback_out hi] at e
      obtain ⟨a, bs, e1, w, q⟩ := I.ow i d e k
      exact ⟨a, bs, e1, w.up b.ext.fs fun c hc => by
        have hh := (w.held (S := S) k e e1 c).mpr hc
        obtain ⟨s1, s2⟩ := stay hi hh
        exact ⟨s2, fun o z => by rw [s1]; exact z⟩, q⟩
  · have hi : some i ∉ ks := fun z => by
      obtain ⟨j, hj⟩ := List.mem_iff_getElem?.mp z
      rw [own_of hj] at k; cases k
    rw [wback_out hi] at e
    obtain ⟨l, kk, c, c', xs, x', f1, f2, f3, f4, f5, f6, f7, f8⟩ := I.al i d e k
    have hl : some l ∉ ks := fun z => by
      obtain ⟨j, hj⟩ := List.mem_iff_getElem?.mp z
      rw [deep_of1 (own_of hj)] at f2; cases f2
    exact ⟨l, kk, c, c', xs, x', f1, f2, f3, by rw [wback_out hl]; exact f4, f5, by rw [(stay hl (I.topHeld (own_of2 (deep_knd f2)) ⟨x', f4⟩ f5)).1]; exact f6, f7, f8⟩
theorem call_back {ks : List (Option Nat)} {vs : List V} {ds as : List D} {F' H' : Hp} {zs : Ev} (I : SInv K S B σ F H ρ) (hA : ArgL K σ F ks vs ds) (hr : resolve ρ ks ds = some as) (hk : os = ks.map Option.isSome) (ho : ks.all (fun k => k.all (fun i => knd S i == 1)) = true) (nd : (ks.filterMap id).Nodup)
    (b : Back K (sgOf os) (callB os vs as F H) vs F' H' zs) : SInv K S B σ F' H' (wback ks zs ρ) := (call_back2 I hA hr hk ho nd b).1
end
section
variable {X : Cx} {W : WX} {S : Sg} {os : List Bool} {pos p : Pos} {e : Expr} {es : List Expr} {ks : List (Option Nat)} {ms : Ev → Out (List D)} {k : Nat} {f : Addr} {fd : FuncData} {ps : List Str} {x : Str} {m : List D → Out D}
theorem me_call (Fn : FnQ gq X.prog X.w X.K X.mg X.base k f fd ps (spM X.K X.mg os m)) (hr : RoomQ gq k X.A) (hg : Gl X x) (hm : X.mg x = some (.ref f)) (hk : PySem.W.keepIn X.K (.ref f) = true) (hb : Binds X.K fd ps []) (tk : Takes X W)
    (ha : MAc X W S (e :: es) ks ms) (h1 : os = ks.map Option.isSome) (h3 : ks.all (fun k => k.all (fun i => knd S i == 1)) = true) (h4 : (ks.filterMap id).Nodup) (hdb : (x == ("__debug__" : Str)) = false := by decide) (he : starEach (e :: es) X.env = (false, eval e X.env) :: starEach es X.env := by rfl) (hpl : (backTo pos (starEach es X.env)).any (·.1) = false := by rfl) :
    ME X W S (.Call (.Name x p) (e :: es) [] pos) (mCallD m ks ms) := by
  obtain ⟨t, pt, q⟩ := ha.ex
  refine ⟨_, pe_callG Fn hr hg hm hk hb (fun σ => passAt tk σ) pt hdb he hpl, fun B F H σ ρ Q I h => ?_⟩
  refine q B F H σ ρ _ I ((Sat.bind h).mono (fun ds ρ1 h1' F1 H1 vs I1 s1 r1 => ?_) fun _ _ z => z)
  obtain ⟨as, e1, h5⟩ := sat_of (Sat.bind h1')
  obtain ⟨hl, J⟩ := call_start I1 r1 e1 h1 h3 h4
  refine ⟨_, F1, as, hl, J, ?_⟩
  cases e2 : m as with
  | bad => rw [e2] at h5; exact h5.elim
  | ok d os =>
    rw [e2] at h5
    exact fun F' H' v b s' r => h5 F' H' v (call_back I1 r1 e1 h1 h3 h4 b) (s1.trans s') r
  | err c os =>
    rw [e2] at h5
    exact fun F' H' C b s' hC => h5 F' H' C (call_back I1 r1 e1 h1 h3 h4 b) (s1.trans s') hC
end
end MW
namespace MW
open PySem PySem.Spec PyProof.Rows L2
mutual
/-- no list anywhere -/
def noList : D → Bool
  | .list _ => false
  | .tuple ds => noLists ds
  | .dict ps => noListK ps
  | _ => true
def noLists : List D → Bool
  | [] => true
  | d :: ds => noList d && noLists ds
def noListK : List (D × D) → Bool
  | [] => true
  | (_, d) :: ps => noList d && noListK ps
end
section
variable {X : Cx} {pins : List (Addr × Obj)} {σ : Sts} {H : Hp} {s : Shared}
mutual
theorem Rp.reads (I : Inv X pins σ H s) : ∀ {v : V} {d : D} {u : Value}, Rp X.K H v d → RelV v u → (d.showable = true ∨ d.plain = true) → ∃ as, Reads s.heap u d as ∧ (noList d = true → sysModules ∉ as)
  | _, _, _, .non, r, _ => by
    cases r
    exact ⟨[], .none, fun _ => List.not_mem_nil⟩
  | _, _, _, .bl b, r, _ => by
    cases r
    exact ⟨[], .bool b, fun _ => List.not_mem_nil⟩
  | _, _, _, .int i, r, _ => by
    obtain ⟨t, rfl⟩ := r
    exact ⟨[], .int i t, fun _ => List.not_mem_nil⟩
  | _, _, _, .str x, r, _ => by
    obtain ⟨t, rfl⟩ := r
    exact ⟨[], .str x t, fun _ => List.not_mem_nil⟩
  | _, _, _, .lst h rr, r, ok => by
    cases r
    obtain ⟨its, rv, ⟨o, n, g, c, _, dt⟩, _⟩ := I.list (.inl h)
    obtain ⟨as, q, _⟩ := RpL.reads I rr rv (by simpa only [PyData.showable, PyData.plain] using ok)
    exact ⟨_, .list g c dt q, fun z => by simp [noList] at z⟩
  | _, _, _, .tup h rr, r, ok => by
    cases r
    obtain ⟨its, rv, ⟨o, g, c, n, dt⟩, _⟩ := I.tuple h.sq
    obtain ⟨as, q, k⟩ := RpL.reads I rr rv (by simpa only [PyData.showable, PyData.plain] using ok)
    exact ⟨_, .tuple g c dt q, fun z => k (by simpa [noList] using z)⟩
  | _, _, _, .dct h rr, r, ok => by
    cases r
    obtain ⟨_, hs, vs, kv, o, es, ep, g, c, dt, _, ps, _⟩ := dk_rd I.hok (.inr ⟨_, h⟩)
    obtain ⟨as, bs, q1, q2, ha, k⟩ := RpK.reads I rr kv ps (by rcases ok with ok | ok; exact (by simpa only [PyData.showable] using ok); exact absurd ok Bool.false_ne_true)
    refine ⟨_, .dict g c.1 dt q1 q2, fun z => ?_⟩
    have hb := k (by simpa [noList] using z)
    simp only [List.cons_append, List.mem_cons, List.mem_append, not_or]
    exact ⟨fun e => by rw [← e] at hs; simp at hs, by rw [ha]; exact List.not_mem_nil, hb⟩
  | _, _, _, .ins h c rr, r, ok => by
    rcases ok with ok | ok
    · simp only [PyData.showable, PyData.showableKv, noShow_ns, Bool.and_false, Bool.false_and] at ok
      exact absurd ok Bool.false_ne_true
    · exact absurd ok Bool.false_ne_true
theorem RpL.reads (I : Inv X pins σ H s) : ∀ {vs : List V} {ds : List D} {us : List Value}, RpL X.K H vs ds → Vals vs us → (PyData.showableAll ds = true ∨ PyData.plainAll ds = true) → ∃ as, ReadsAll s.heap us ds as ∧ (noLists ds = true → sysModules ∉ as)
  | _, _, _, .nil, r, _ => by
    cases r
    exact ⟨[], .nil, fun _ => List.not_mem_nil⟩
  | _, _, _, .cons h rr, r, ok => by
    cases r with
    | cons r1 r2 =>
      simp only [PyData.showableAll, PyData.plainAll, Bool.and_eq_true] at ok
      obtain ⟨as, q1, k1⟩ := Rp.reads I h r1 (ok.imp (·.1) (·.1))
      obtain ⟨bs, q2, k2⟩ := RpL.reads I rr r2 (ok.imp (·.2) (·.2))
      refine ⟨_, .cons q1 q2, fun z => ?_⟩
      simp only [noLists, Bool.and_eq_true] at z
      simp only [List.mem_append, not_or]
      exact ⟨k1 z.1, k2 z.2⟩
theorem RpK.reads (I : Inv X pins σ H s) : ∀ {kvs : List (L2.Key × V)} {ps : List (D × D)} {vs : List (L2.Key × Value)} {es : List DictEntry}, RpK X.K H kvs ps → KV kvs vs → Pairs (mixKind X.prog X.w) es vs → PyData.showableKv ps = true →
    ∃ as bs, ReadsAll s.heap (es.map (·.key)) (ps.map (·.1)) as ∧ ReadsAll s.heap (es.map (·.val)) (ps.map (·.2)) bs ∧ as = [] ∧ (noListK ps = true → sysModules ∉ bs)
  | _, _, _, _, .nil, kv, p, _ => by
    cases kv
    cases p
    exact ⟨[], [], .nil, .nil, rfl, fun _ => List.not_mem_nil⟩
  | _, _, _, _, .cons h rr, kv, p, ok => by
    cases kv with
    | cons r1 r2 =>
      cases p with
      | cons p1 p2 p3 =>
        obtain ⟨e1, r1⟩ := r1
        simp only [PyData.showableKv, Bool.and_eq_true] at ok
        obtain ⟨as, bs, q1, q2, ha, k⟩ := RpK.reads I rr r2 p3 ok.2
        obtain ⟨cs, q3, k3⟩ := Rp.reads I h (p2 ▸ r1) (.inl ok.1.2)
        rename_i k0 v0 _ _ _ kv0 _ en _
        have key : Reads s.heap en.key (keyD k0) [] := by
          have e1 : k0 = kv0.1 := e1
          rw [← e1] at p1
          rcases keyIs_shape p1 with ⟨i, t, z1, z2⟩ | ⟨x, t, z1, z2⟩
          · rw [z1, z2]; exact .int i t
          · rw [z1, z2]; exact .str x t
        refine ⟨_, _, .cons key q1, .cons q3 q2, by rw [ha]; rfl, fun z => ?_⟩
        simp only [noListK, Bool.and_eq_true] at z
        simp only [List.mem_append, not_or]
        exact ⟨k3 z.1, k z.2⟩
end
end
def plainB (d : D) : Bool := d.plain && decide (d.depth ≤ 64)
end MW
namespace MW
open PySem PySem.Spec PyProof.Rows L2
mutual
theorem Rp.dp {K : Fg} {H : Hp} : ∀ {v : V} {d : D}, Rp K H v d → d.canLay0 = true → Dp K H v d
  | _, _, .non, _ => .non
  | _, _, .bl b, _ => .bl b
  | _, _, .int i, _ => .int i
  | _, _, .str x, _ => .str x
  | _, _, .lst h r, c => .lst (.inl h) (RpL.dp r (by simpa [PyData.canLay0] using c))
  | _, _, .tup h r, c => .tup h.sq (RpL.dp r (by simpa [PyData.canLay0] using c))
  | _, _, .dct h r, c => by simp [PyData.canLay0] at c
  | _, _, .ins h _ r, c => by simp [PyData.canLay0] at c
theorem RpL.dp {K : Fg} {H : Hp} : ∀ {vs : List V} {ds : List D}, RpL K H vs ds → PyData.canLayAll0 ds = true → DpAll K H vs ds
  | _, _, .nil, _ => .nil
  | _, _, .cons h r, c => by
    simp only [PyData.canLayAll0, Bool.and_eq_true] at c
    exact .cons (Rp.dp h c.1) (RpL.dp r c.2)
end
section
variable {X : Cx}
def rCatR : R2 := fun x y H Q => ∃ l b xs zs, x = .ref l ∧ y = .ref b ∧ Rd H l (.lst xs) ∧ Rd H b (.lst zs) ∧ xs.length + zs.length ≤ sizeLine ∧ ∀ p, H p = none → Q (.ref p) (upd H p (.lst (xs ++ zs)))
theorem op_catR : OpR X (binaryOp .Add) rCatR := by
  intro pins s σ H x y v u Q I rx ry h
  obtain ⟨l, b, xs, zs, rfl, rfl, hH, hB, hz, q⟩ := h
  cases rx
  cases ry
  obtain ⟨z, its, n, r, e⟩ := hH.ok I.hok
  obtain ⟨z2, its2, n2, r2, e2⟩ := hB.ok I.hok
  have hl := r.length
  have hl2 := r2.length
  refine PySem.P.add_list e e2 ?_ (by rw [List.size_toArray, List.size_toArray]; omega)
  have ea : its.toArray ++ its2.toArray = (its ++ its2).toArray := by simp
  rw [ea]
  exact ⟨.ref _, _, I.lnew (t' := s.toks) (r.append r2) (by rw [List.length_append]; omega), rfl, q _ I.fresh⟩
def rRepR : R2 := fun x y H Q => ∃ l k xs, x = .ref l ∧ y = .int k ∧ Rd H l (.lst xs) ∧ -(2 ^ 63) ≤ k ∧ k < 2 ^ 63 ∧ xs.length * k.toNat ≤ sizeLine ∧
  ∀ p, H p = none → Q (.ref p) (upd H p (.lst (List.replicate k.toNat xs).flatten))
theorem op_repR : OpR X (binaryOp .Mult) rRepR := by
  intro pins s σ H x y v u Q I rx ry h
  obtain ⟨l, k, xs, rfl, rfl, hH, h1, h2, hz, q⟩ := h
  cases rx
  obtain ⟨t, rfl⟩ := ry
  obtain ⟨z, its, n, r, e⟩ := hH.ok I.hok
  have hl := r.length
  have hlen : its.toArray.size * k.toNat ≤ sizeLine := by rw [List.size_toArray, ← hl]; exact hz
  have hcap : ¬ its.toArray.size * k.toNat > (2 ^ 63 - 1) / 8 := by
    have : (sizeLine : Nat) ≤ (2 ^ 63 - 1) / 8 := by decide
    omega
  have hfit : ¬ (!Builtin.List.listFitsIndex k) = true := by
    rw [fitsIndex_both h1 h2]
    exact Bool.false_ne_true
  have hlong : ¬ Builtin.List.listTooLong (its.toArray.size * k.toNat) = true := by
    rw [notLongL hlen]
    exact Bool.false_ne_true
  have hnew : List.foldl (fun x1 x2 => x1 ++ x2) #[] (List.replicate (if its.toArray.isEmpty = true then 0 else k.toNat) its.toArray) = (List.replicate k.toNat its).flatten.toArray := by
    have f0 : ∀ m : Nat, List.foldl (fun x1 x2 => x1 ++ x2) #[] (List.replicate m its.toArray) = (List.replicate m its).flatten.toArray := fun m => by
      have := foldl_rep its m []
      rw [List.nil_append] at this
      exact this
    rw [f0]
    cases its with
    | nil => simp
    | cons a r' => rw [if_neg (by simp)]
  refine wpAny_binaryOp_repeat_ref (T := "list") (U := "int") (by decide) ⟨_, e, rfl⟩ (fun s' => typeIs_int s' k t) noFill_list_mul F.fills_int_mul F.slot_int_rmul repeat_list F.slot_int_index.lookup
    (call_meets F.slot_int_rmul (typeIs_int s k t) F.entry_int_rmul (F.args_int_rmul_2 _ _) (int___rmul___int_list k t l its.toArray n)
      ⟨e, rfl, ⟨_, e, rfl⟩, call_meets F.slot_list_mul ⟨_, e, rfl⟩ F.entry_list_mul (F.args_list_mul_2 _ _) (AutoListH.list___mul___list_int_3 l its.toArray n k t hfit hcap hlong) ⟨e, ?_⟩⟩)
  rw [hnew]
  exact ⟨.ref _, _, I.lnew (t' := s.toks) (r.rep k.toNat) (by rw [PyProof.Rows.lm_len_rep_flat, Nat.mul_comm]; exact hz), rfl, q _ I.fresh⟩
end
def gAdd : D → D → Option D
  | .int i, .int j => some (.int (i + j))
  | .list xs, .list ys => if xs.length + ys.length ≤ 16777216 then some (.list (xs ++ ys)) else none
  | .tuple xs, .tuple ys => if xs.length + ys.length ≤ 16777216 then some (.tuple (xs ++ ys)) else none
  | .str x, .str y => if x.length + y.length ≤ 16777216 then some (.str (x ++ y)) else none
  | _, _ => none
def gSub : D → D → Option D
  | .int i, .int j => some (.int (i - j))
  | _, _ => none
def gMul : D → D → Option D
  | .int i, .int j => if (-18446744073709551616 < i ∧ i < 18446744073709551616) ∨ (-18446744073709551616 < j ∧ j < 18446744073709551616) then some (.int (i * j)) else none
  | .list xs, .int k => if k ≤ 100000 ∧ -100000 ≤ k ∧ xs.length ≤ 100 then some (.list (List.replicate k.toNat xs).flatten) else none
  | _, _ => none
def gMod : D → D → Option D
  | .int i, .int j => if 0 < j then some (.int (i % j)) else none
  | _, _ => none
def gDiv : D → D → Option D
  | .int i, .int j => if 0 < j ∧ j < 1073741824 then some (.int (i / j)) else none
  | _, _ => none
def gPow : D → D → Option D
  | .int i, .int j => if 0 ≤ j ∧ j ≤ 1000000 ∧ i.natAbs < 18446744073709551616 then some (.int (i ^ j.toNat)) else none
  | _, _ => none
theorem RpL.rep {K : Fg} {F : Hp} {xs : List V} {ds : List D} (r : RpL K F xs ds) : ∀ n : Nat, RpL K F (List.replicate n xs).flatten (List.replicate n ds).flatten
  | 0 => .nil
  | n + 1 => by
    rw [List.replicate_succ, List.replicate_succ, List.flatten_cons, List.flatten_cons]
    exact r.app (r.rep n)
section
variable {X : Cx} {W : WX} {S : Sg} {a b : Expr} {pos : Pos} {ma mb : Ev → Out D}
def rCatM (K : Fg) : R2 := fun x y H Q => ∃ a b xs ys, x = .ref a ∧ y = .ref b ∧ SqT K H a xs ∧ SqT K H b ys ∧ xs.length + ys.length ≤ sizeLine ∧
  (xs = [] → Q (.ref b) H) ∧ (xs ≠ [] → ys = [] → Q (.ref a) H) ∧ (xs ≠ [] → ys ≠ [] → ∀ (p : Addr) (o : Obj), o.dict = none → H p = none → Q (.ref p) (upd H p (.frz o (.tup (xs ++ ys)))))
theorem op_catM : OpR X (binaryOp .Add) (rCatM X.K) := by
  intro pins s σ H x y v u Q I rx ry ⟨a, b, xs, ys, ex, ey, ha, hb, hz, q0, q1, q2⟩
  by_cases hx : xs = []
  · exact op_catA pins s σ H x y v u Q I rx ry ⟨a, b, xs, ys, ex, ey, ha, hb, hz, q0, q1, fun z => absurd hx z⟩
  by_cases hy : ys = []
  · exact op_catA pins s σ H x y v u Q I rx ry ⟨a, b, xs, ys, ex, ey, ha, hb, hz, q0, q1, fun _ z => absurd hy z⟩
  subst ex ey
  cases rx
  cases ry
  obtain ⟨us, r1, p1, _⟩ := I.tuple ha
  obtain ⟨ws, r2, p2, _⟩ := I.tuple hb
  exact HT.cat_tup p1 p2 (fun z => hx (r1.nil_iff.mp z)) (fun z => absurd (r2.nil_iff.mp z) hy) (fun _ => mkT I (r1.append r2) (by rw [List.length_append]; exact hz) (q2 hx hy)) (by rw [← r1.length, ← r2.length]; exact hz)
theorem opd_add : OpD X (fun x y H Q => rI0 (fun i j => .int (i + j)) x y H Q ∨ rCatR x y H Q ∨ rCatM X.K x y H Q ∨ ∃ i j, x = .str i ∧ y = .str j ∧ i.length + j.length ≤ sizeLine ∧ Q (.str (i ++ j)) H) gAdd := by
  intro S B F H σ ρ Q x y d e z I rx ry hz k
  have hsz := sizeLine_eq
  unfold gAdd at hz
  split at hz
  · cases hz
    exact .inl ⟨_, _, rx.int, ry.int, k.now I (.int _)⟩
  · split at hz
    · cases hz
      obtain ⟨p, xs, rfl, h1, r1⟩ := rx.lst I.same
      obtain ⟨q, ys, rfl, h2, r2⟩ := ry.lst I.same
      exact .inr (.inl ⟨p, q, xs, ys, rfl, rfl, h1, h2, by rw [r1.len, r2.len]; omega, fun p hp => k.lst I (r1.app r2) hp⟩)
    · cases hz
  · split at hz
    · cases hz
      obtain ⟨p, xs, rfl, h1, r1⟩ := rx.tup I.same
      obtain ⟨q, ys, rfl, h2, r2⟩ := ry.tup I.same
      rename_i xs' ys' hl
      have l1 := r1.len
      have l2 := r2.len
      refine .inr (.inr (.inl ⟨p, q, xs, ys, rfl, rfl, h1, h2, by omega, fun e => ?_, fun e e' => ?_, fun _ _ p o ho hp => k.tup I (r1.app r2) ho hp⟩))
      · subst e
        cases r1
        refine k.now I ?_
        rcases ry with ry | ⟨_, _, _, _, e2, _⟩
        · exact ry
        · cases e2
      · subst e'
        cases r2
        refine k.now I ?_
        rw [List.append_nil]
        rcases rx with rx | ⟨_, _, _, _, e2, _⟩
        · exact rx
        · cases e2
    · cases hz
  · split at hz
    · cases hz
      exact .inr (.inr (.inr ⟨_, _, rx.str, ry.str, by omega, k.now I (.str _)⟩))
    · cases hz
  · cases hz
theorem me_add (ha : ME X W S a ma) (hb : ME X W S b mb) : ME X W S (.BinOp a .Add b pos) (mBin gAdd ma mb) := me_op (op_add.or (op_catR.or (op_catM.or op_add_str))) opd_add ha hb
theorem opd_sub : OpD X (rI0 fun i j => .int (i - j)) gSub := by
  intro S B F H σ ρ Q x y d e z I rx ry hz k
  unfold gSub at hz
  split at hz
  · cases hz
    exact ⟨_, _, rx.int, ry.int, k.now I (.int _)⟩
  · cases hz
theorem me_sub (ha : ME X W S a ma) (hb : ME X W S b mb) : ME X W S (.BinOp a .Sub b pos) (mBin gSub ma mb) := me_op op_sub opd_sub ha hb
theorem opd_mul : OpD X (fun x y H Q => rI CMul (fun i j => .int (i * j)) x y H Q ∨ rRepR x y H Q ) gMul := by
  intro S B F H σ ρ Q x y d e z I rx ry hz k
  have hsz := sizeLine_eq
  unfold gMul at hz
  split at hz
  · split at hz
    · cases hz
      refine .inl ⟨_, _, rx.int, ry.int, ?_, k.now I (.int _)⟩
      unfold CMul
      omega
    · cases hz
  · split at hz
    · cases hz
      rename_i xs' j hj
      obtain ⟨p, xs, rfl, h1, r1⟩ := rx.lst I.same
      refine .inr ⟨p, _, xs, rfl, ry.int, h1, by omega, by omega, ?_, fun p hp => k.lst I (r1.rep _) hp⟩
      have l1 := r1.len
      have h100 : xs.length ≤ 100 := by omega
      have hk : j.toNat ≤ 100000 := by omega
      calc xs.length * j.toNat ≤ 100 * 100000 := Nat.mul_le_mul h100 hk
        _ ≤ sizeLine := by rw [hsz]; decide
    · cases hz
  · cases hz
theorem me_mul (ha : ME X W S a ma) (hb : ME X W S b mb) : ME X W S (.BinOp a .Mult b pos) (mBin gMul ma mb) := me_op (op_mul.or op_repR) opd_mul ha hb
theorem opd_mod : OpD X (rI (fun _ j => 0 < j) fun i j => .int (i % j)) gMod := by
  intro S B F H σ ρ Q x y d e z I rx ry hz k
  unfold gMod at hz
  split at hz
  · split at hz
    · cases hz
      rename_i h
      exact ⟨_, _, rx.int, ry.int, h, k.now I (.int _)⟩
    · cases hz
  · cases hz
theorem me_mod (ha : ME X W S a ma) (hb : ME X W S b mb) : ME X W S (.BinOp a .Mod b pos) (mBin gMod ma mb) := me_op op_mod opd_mod ha hb
theorem opd_div : OpD X (rI CDiv fun i j => .int (i / j)) gDiv := by
  intro S B F H σ ρ Q x y d e z I rx ry hz k
  unfold gDiv at hz
  split at hz
  · split at hz
    · cases hz
      rename_i h
      exact ⟨_, _, rx.int, ry.int, h, k.now I (.int _)⟩
    · cases hz
  · cases hz
theorem me_div (ha : ME X W S a ma) (hb : ME X W S b mb) : ME X W S (.BinOp a .FloorDiv b pos) (mBin gDiv ma mb) := me_op op_fdiv opd_div ha hb
theorem opd_pow : OpD X (rI CPow fun i j => .int (i ^ j.toNat)) gPow := by
  intro S B F H σ ρ Q x y d e z I rx ry hz k
  unfold gPow at hz
  split at hz
  · split at hz
    · cases hz
      rename_i h
      exact ⟨_, _, rx.int, ry.int, ⟨h.1, h.2.1, by have := h.2.2; omega⟩, k.now I (.int _)⟩
    · cases hz
  · cases hz
theorem me_pow (ha : ME X W S a ma) (hb : ME X W S b mb) : ME X W S (.BinOp a .Pow b pos) (mBin gPow ma mb) := me_op op_pow opd_pow ha hb
/-- texts with signs of any kind -/
def sEq : D → D → Option Bool
  | .str a, .str b => some (decide (a = b))
  | _, _ => none
/-- data without dicts, texts among it -/
def pEq (d e : D) : Option Bool := if plainB d = true ∧ plainB e = true then some (PyData.eqv d e) else none
def bEq (d e : D) : Option Bool := if SeqAt.shaped d = true ∧ SeqAt.shaped e = true then some (PyData.eqv d e) else (sEq d e).or (pEq d e)
def bNe (d e : D) : Option Bool := if SeqAt.shaped d = true ∧ SeqAt.shaped e = true then some (!PyData.eqv d e) else ((sEq d e).or (pEq d e)).map not
def bLt : D → D → Option Bool
  | .int i, .int j => some (decide (i < j))
  | _, _ => none
def bLe : D → D → Option Bool
  | .int i, .int j => some (decide (i ≤ j))
  | _, _ => none
def bGt : D → D → Option Bool
  | .int i, .int j => some (decide (j < i))
  | _, _ => none
def bGe : D → D → Option Bool
  | .int i, .int j => some (decide (j ≤ i))
  | _, _ => none
def bIs : D → D → Option Bool
  | .none, .none => some true
  | _, .none => some false
  | .bool a, .bool b => some (decide (a = b))
  | _, _ => none
def bIsNot (d e : D) : Option Bool := (bIs d e).map not
def flatD : D → Bool
  | .none => true
  | .bool _ => true
  | .int _ => true
  | .str _ => true
  | _ => false
def vOf : D → V
  | .bool b => .bl b
  | .int i => .int i
  | .str x => .str x
  | _ => .non
theorem rp_flat {K : Fg} {F : Hp} {v : V} {d : D} (r : Rp K F v d) (h : flatD d = true) : v = vOf d ∧ flatV v = true := by
  cases r <;> first | exact ⟨rfl, rfl⟩ | cases h
def eqF (d e : D) : Bool := eqV (vOf d) (vOf e)
theorem rpL_flat {K : Fg} {F : Hp} : ∀ {xs : List V} {ds : List D}, RpL K F xs ds → ds.all flatD = true → xs = ds.map vOf ∧ xs.all flatV = true
  | _, _, .nil, _ => ⟨rfl, rfl⟩
  | _, _, .cons r rr, h => by
    rw [List.all_cons, Bool.and_eq_true] at h
    obtain ⟨e1, f1⟩ := rp_flat r h.1
    obtain ⟨e2, f2⟩ := rpL_flat rr h.2
    exact ⟨by rw [e1, e2]; rfl, by rw [List.all_cons, f1, f2]; rfl⟩
def bIn : D → D → Option Bool := fun d e => match e with
  | .list ds => if SeqAt.shaped d = true ∧ SeqAt.shaped (.list ds) = true then some (ds.any fun z => PyData.eqv z d) else none
  | .tuple ds => if flatD d = true ∧ ds.all flatD = true then some (ds.any fun y => eqF y d) else none
  | _ => none
def bNotIn (d e : D) : Option Bool := (bIn d e).map not
abbrev gB (g : D → D → Option Bool) : D → D → Option D := fun d e => (g d e).map PyData.bool
theorem shaped_lay {d : D} (h : SeqAt.shaped d = true) : d.canLay0 = true := by
  unfold SeqAt.shaped at h
  simp only [Bool.and_eq_true] at h
  exact h.1
def rEqP (K : Fg) : R2 := fun x y H Q => ∃ d e, Rp K H x d ∧ Rp K H y e ∧ plainB d = true ∧ plainB e = true ∧ Q (.bl (PyData.eqv d e)) H
def rNeP (K : Fg) : R2 := fun x y H Q => ∃ d e, Rp K H x d ∧ Rp K H y e ∧ plainB d = true ∧ plainB e = true ∧ Q (.bl (!PyData.eqv d e)) H
theorem plain_room {d e : D} {A : Around} (h : plainB d = true) (hu : A.units + 64 < cLine) : A.units + min d.depth e.depth < cLine := by
  unfold plainB at h
  simp only [Bool.and_eq_true, decide_eq_true_eq] at h
  omega
theorem plain_of {d : D} (h : plainB d = true) : d.plain = true := by
  unfold plainB at h
  simp only [Bool.and_eq_true] at h
  exact h.1
theorem op_eqP (hu : X.A.units + 64 < cLine) : OpR X (compareOp .Eq) (rEqP X.K) := by
  intro pins s σ H x y v u Q I rx ry h
  obtain ⟨d, e, hd, he, sd, se, q⟩ := h
  obtain ⟨as, r1, _⟩ := Rp.reads I hd rx (.inr (plain_of sd))
  obtain ⟨bs, r2, _⟩ := Rp.reads I he ry (.inr (plain_of se))
  exact SeqAt.eq_plain r1 r2 (plain_of sd) (plain_of se) (plain_room sd hu) ⟨.bl _, H, I, rfl, q⟩
theorem op_neP (hu : X.A.units + 64 < cLine) : OpR X (compareOp .NotEq) (rNeP X.K) := by
  intro pins s σ H x y v u Q I rx ry h
  obtain ⟨d, e, hd, he, sd, se, q⟩ := h
  obtain ⟨as, r1, _⟩ := Rp.reads I hd rx (.inr (plain_of sd))
  obtain ⟨bs, r2, _⟩ := Rp.reads I he ry (.inr (plain_of se))
  exact SeqAt.ne_plain r1 r2 (plain_of sd) (plain_of se) (plain_room sd hu) ⟨.bl _, H, I, rfl, q⟩
abbrev rEqM (K : Fg) : R2 := fun x y H Q => (rEqD K x y H Q ∨ rEq x y H Q) ∨ rEqP K x y H Q
abbrev rNeM (K : Fg) : R2 := fun x y H Q => (rNeD K x y H Q ∨ rNe x y H Q) ∨ rNeP K x y H Q
theorem op_eqM (hu : X.A.units + 64 < cLine) : OpR X (compareOp .Eq) (rEqM X.K) := ((op_eqD hu).or op_eq).or (op_eqP hu)
theorem op_neM (hu : X.A.units + 64 < cLine) : OpR X (compareOp .NotEq) (rNeM X.K) := ((op_neD hu).or op_ne).or (op_neP hu)
theorem opb_eq : OpB X (rEqM X.K) bEq := by
  intro S B F H σ ρ x y d e z Q I rx ry hz k
  unfold bEq at hz
  split at hz
  · cases hz
    rename_i h
    exact .inl (.inl ⟨d, e, (rx.full I.same).dp (shaped_lay h.1), (ry.full I.same).dp (shaped_lay h.2), h.1, h.2, k⟩)
  · rcases Option.or_eq_some_iff.mp hz with hz | ⟨_, hz⟩
    · unfold sEq at hz
      split at hz
      · cases hz
        rw [rx.str, ry.str]
        refine .inl (.inr ⟨rfl, ?_⟩)
        rename_i a b _
        rw [show decide (V.str a = V.str b) = decide (a = b) by simp]
        exact k
      · cases hz
    · unfold pEq at hz
      split at hz
      · cases hz
        rename_i h
        exact .inr ⟨d, e, rx.full I.same, ry.full I.same, h.1, h.2, k⟩
      · cases hz
theorem opb_ne : OpB X (rNeM X.K) bNe := by
  intro S B F H σ ρ x y d e z Q I rx ry hz k
  unfold bNe at hz
  split at hz
  · cases hz
    rename_i h
    exact .inl (.inl ⟨d, e, (rx.full I.same).dp (shaped_lay h.1), (ry.full I.same).dp (shaped_lay h.2), h.1, h.2, k⟩)
  · obtain ⟨z0, hy, rfl⟩ := Option.map_eq_some_iff.mp hz
    clear hz
    rcases Option.or_eq_some_iff.mp hy with hz | ⟨_, hz⟩
    · unfold sEq at hz
      split at hz
      · cases hz
        rw [rx.str, ry.str]
        refine .inl (.inr ⟨rfl, ?_⟩)
        rename_i a b _
        first
          | (rw [show decide (V.str a = V.str b) = decide (a = b) by simp]; exact k)
          | (rw [show decide (V.str a ≠ V.str b) = !decide (a = b) by simp]; exact k)
      · cases hz
    · unfold pEq at hz
      split at hz
      · cases hz
        rename_i h
        exact .inr ⟨d, e, rx.full I.same, ry.full I.same, h.1, h.2, k⟩
      · cases hz
theorem opb_lt : OpB X (rI0 fun i j => .bl (decide (i < j))) bLt := by
  intro S B F H σ ρ x y d e z Q I rx ry hz k
  unfold bLt at hz
  split at hz
  · cases hz; exact ⟨_, _, rx.int, ry.int, k⟩
  · cases hz
theorem opb_le : OpB X (rI0 fun i j => .bl (decide (i ≤ j))) bLe := by
  intro S B F H σ ρ x y d e z Q I rx ry hz k
  unfold bLe at hz
  split at hz
  · cases hz; exact ⟨_, _, rx.int, ry.int, k⟩
  · cases hz
theorem opb_gt : OpB X (rI0 fun i j => .bl (decide (j < i))) bGt := by
  intro S B F H σ ρ x y d e z Q I rx ry hz k
  unfold bGt at hz
  split at hz
  · cases hz; exact ⟨_, _, rx.int, ry.int, k⟩
  · cases hz
theorem op_le : OpR X (compareOp .LtE) (rI0 fun i j => .bl (decide (i ≤ j))) := opB0 fun _ _ _ _ _ _ _ q => le_int q
theorem op_gt : OpR X (compareOp .Gt) (rI0 fun i j => .bl (decide (j < i))) := opB0 fun _ _ _ _ _ _ _ q => gt_int q
theorem rp_non {K : Fg} {F : Hp} {v : V} {d : D} (r : Rp K F v d) : decide (v = .non) = match d with | .none => true | _ => false := by
  cases r <;> first | rfl | simp
theorem opb_is : OpB X (fun x y H Q => (y = .non ∧ Q (.bl (decide (x = .non))) H) ∨ ∃ a b, x = .bl a ∧ y = .bl b ∧ Q (.bl (decide (a = b))) H) bIs := by
  intro S B F H σ ρ x y d e z Q I rx ry hz k
  unfold bIs at hz
  split at hz
  · cases hz
    refine .inl ⟨ry.non, ?_⟩
    rw [rp_non (rx.full I.same)]
    exact k
  · cases hz
    refine .inl ⟨ry.non, ?_⟩
    rename_i hn
    rw [rp_non (rx.full I.same)]
    split
    · exact absurd rfl hn
    · exact k
  · cases hz
    exact .inr ⟨_, _, rx.bl, ry.bl, k⟩
  · cases hz
theorem opb_isNot : OpB X (fun x y H Q => (y = .non ∧ Q (.bl (!decide (x = .non))) H) ∨ ∃ a b, x = .bl a ∧ y = .bl b ∧ Q (.bl (!decide (a = b))) H) bIsNot := by
  intro S B F H σ ρ x y d e z Q I rx ry hz k
  obtain ⟨z', hz', rfl⟩ := Option.map_eq_some_iff.mp hz
  rcases opb_is S B F H σ ρ x y d e z' (fun v H' => ∃ c, v = .bl c ∧ Q (.bl (!c)) H') I rx ry hz' ⟨_, rfl, k⟩ with ⟨e1, c, e2, q⟩ | ⟨a, b, e1, e2, c, e3, q⟩
  · cases e2; exact .inl ⟨e1, q⟩
  · cases e3; exact .inr ⟨a, b, e1, e2, q⟩
theorem in_flat {K : Fg} {S : Sg} {B : Base} {F H : Hp} {σ : Sts} {ρ : Ev} {x y : V} {d : D} {ds : List D} {Q : VK} (neg : Bool) (I : SInv K S B σ F H ρ) (rx : RpS K F H x d) (ry : RpS K F H y (.tuple ds)) (h : flatD d = true ∧ ds.all flatD = true) (k : Q (.bl (if neg = true then !ds.any (fun y => eqF y d) else ds.any fun y => eqF y d)) H) : rIn K neg x y H Q := by
  obtain ⟨a, xs, rfl, h1, h2⟩ := ry.tup I.same
  have rx' : Rp K F x d := by
    rcases rx with r | ⟨a, xs, es, e1, e2, _⟩
    · exact r
    · subst e2; exact absurd h.1 (by simp [flatD])
  obtain ⟨e1, f1⟩ := rp_flat rx' h.1
  obtain ⟨e2, f2⟩ := rpL_flat h2 h.2
  refine ⟨a, xs, rfl, .inr h1, f1, f2, ?_⟩
  have : inV x xs = ds.any fun y => eqF y d := by
    rw [e1, e2]
    unfold inV
    rw [List.any_map]
    rfl
  rw [this]
  exact k
theorem op_notInM (hu : X.A.units + 65 < cLine) : OpR X (compareOp .NotIn) (fun x y H Q => rNotInD X.K x y H Q ∨ rIn X.K true x y H Q) := (op_notInD hu).or op_notIn_seq
theorem opb_notIn : OpB X (fun x y H Q => rNotInD X.K x y H Q ∨ rIn X.K true x y H Q) bNotIn := by
  intro S B F H σ ρ x y d e z Q I rx ry hz k
  obtain ⟨z', hz', rfl⟩ := Option.map_eq_some_iff.mp hz
  unfold bIn at hz'
  split at hz'
  · split at hz'
    · cases hz'
      rename_i h
      exact .inl ⟨d, _, (rx.full I.same).dp (shaped_lay h.1), (ry.full I.same).dp (shaped_lay h.2), h.1, h.2, k⟩
    · cases hz'
  · split at hz'
    · cases hz'
      rename_i h
      exact .inr (in_flat true I rx ry h k)
    · cases hz'
  · cases hz'
end
end MW
namespace MW
open PySem PySem.Spec PyProof.Rows L2
section
variable {K : Fg} {S : Sg} {B : Base} {σ : Sts} {F H F' H' : Hp} {ρ : Ev}
theorem OwLs.app {bs cs : List Addr} {ds es : List D} (h : OwLs K F H bs ds) (h' : OwLs K F H cs es) : OwLs K F H (bs ++ cs) (ds ++ es) := by
  induction bs generalizing ds with
  | nil => cases h; exact h'
  | cons b bs ih => cases h with | cons h r => exact .cons h (ih r)
theorem deep_lst {i : Nat} {d : D} (I : SInv K S B σ F H ρ) (k : knd S i = 2) (e : rd ρ i = some d) : ∃ a bs ds, σ[i]? = some (some (.ref a)) ∧ d = .list ds ∧ F a = none ∧ H a = some (.lst (bs.map V.ref)) ∧ OwLs K F H bs ds ∧ (a :: bs).Nodup := by
  obtain ⟨a, bs, e1, w, _⟩ := I.ow i d (rd_some e) (own_of2 k)
  have w2 := w.2
  rw [k] at w2
  obtain ⟨ds, h1, h2, h3, h4⟩ := w2
  exact ⟨a, bs, ds, e1, h1, h2, h3, h4, w.1⟩
theorem OwLs.set {bs : List Addr} {ds : List D} {n : Nat} {b : Addr} {xs : List V} {es : List D} (h : OwLs K F H bs ds) (nd : bs.Nodup) (eb : bs[n]? = some b) (r : RpL K F xs es) : OwLs K F (upd H b (.lst xs)) bs (ds.set n (.list es)) := by
  induction bs generalizing ds n with
  | nil => cases h; exact .nil
  | cons c cs ih =>
    cases h with
    | cons w h =>
      obtain ⟨nc, nd'⟩ := List.nodup_cons.mp nd
      cases n with
      | zero =>
        simp at eb
        subst eb
        refine .cons ?_ (h.up (Same.refl _) fun c' hc => ?_)
        · obtain ⟨_, _, _, f, _, _⟩ := w
          exact ⟨xs, es, rfl, f, upd_same, r⟩
        · have hne : c' ≠ c := fun z => nc (z ▸ hc)
          obtain ⟨k, hk⟩ := List.mem_iff_getElem?.mp hc
          obtain ⟨_, _, _, _, _, f, _, _⟩ := h.gets hk
          exact ⟨f, fun o q => by rw [upd_ne hne]; exact q⟩
      | succ n =>
        have eb' : cs[n]? = some b := by simpa using eb
        have hb : b ∈ cs := List.mem_of_getElem? eb'
        have hne : c ≠ b := fun z => nc (z ▸ hb)
        refine .cons (w.up (Same.refl _) ?_ fun o q => by rw [upd_ne hne]; exact q) (ih h nd' eb')
        obtain ⟨_, _, _, f, _, _⟩ := w
        exact f
/-- an inner list is changed -/
theorem SInv.mutIn (I : SInv K S B σ F H ρ) {i n : Nat} {a b : Addr} {bs : List Addr} {dss : List D} {xs : List V} {es : List D} (e : rd ρ i = some (.list dss)) (k : knd S i = 2) (ea : σ[i]? = some (some (.ref a))) (eH : H a = some (.lst (bs.map V.ref))) (eb : bs[n]? = some b) (r : RpL K F xs es) :
    SInv K S B σ F (upd H b (.lst xs)) (ρ.set i (some (.list (dss.set n (.list es))))) := by
  obtain ⟨a', bs', ds', e1, e2, e3, e4, e5, nd⟩ := deep_lst I k e
  rw [ea] at e1
  cases e1
  cases e2
  rw [eH] at e4
  have hbs : bs = bs' := by
    have h := Option.some.inj e4
    have h2 : bs.map V.ref = bs'.map V.ref := by injection h
    exact List.map_inj_right (fun _ _ z => by injection z) |>.mp h2
  subst hbs
  have w : OwX K F H (knd S i) a bs (.list dss) := ⟨nd, by rw [k]; exact ⟨_, rfl, e3, eH, e5⟩⟩
  have hb : b ∈ a :: bs := List.mem_cons_of_mem _ (List.mem_of_getElem? eb)
  have hne : a ≠ b := fun z => (List.nodup_cons.mp nd).1 (z ▸ List.mem_of_getElem? eb)
  have hh := fun c hc => (w.held (S := S) (own_of2 k) (rd_some e) ea c).mpr hc
  refine I.chg (bs := bs) (rd_some e) (own_of2 k) ea (hh b hb) (fun _ => hne.symm) ⟨nd, ?_⟩ hh
  rw [k]
  exact ⟨_, rfl, e3, by rw [upd_ne hne]; exact eH, e5.set (List.nodup_cons.mp nd).2 eb r⟩
end
abbrev LLKo (K : Fg) (S : Sg) (B : Base) (σ : Sts) (F : Hp) (Q : VK) : List D → Ev → Prop := fun ds ρ' => ∀ F' H' p bs, SInv K S B σ F' H' ρ' → Same F F' → F' p = none → H' p = some (.lst (bs.map V.ref)) → OwLs K F' H' bs ds → (p :: bs).Nodup → (∀ b, b ∈ p :: bs → B.H b = none) → (∀ i a, Held S σ H' ρ' i a → a ∉ p :: bs) → Q (.ref p) H'
def tML (K : Fg) (mg : Str → Option Value) (W : WX) (S : Sg) (m : Ev → Out (List D)) : TE := fun σ H Q => ∃ B F ρ, SInv K S B σ F H ρ ∧ Sat (m ρ) (LKo K S B σ F Q) (fun c ρ' => ∀ F' H' C, SInv K S B σ F' H' ρ' → Same F F' → mg c = some (.ref C) → W (.ref C) none σ H')
theorem ML.run {X : Cx} {W : WX} {S : Sg} {e : Expr} {m : Ev → Out (List D)} (h : ML X W S e m) : PE X e (tML X.K X.mg W S m) := by
  obtain ⟨t, p, q⟩ := h.ex
  exact ⟨fun pins s σ H Q I ⟨B, F, ρ, J, z⟩ => p.run pins s σ H Q I (q B F H σ ρ Q J z)⟩
/-- as lc_sat, each item a new list -/
theorem lc_satL {S : Sg} {K : Fg} {mg : Str → Option Value} {vs : List Nat} {g : Ev → D → Option Ev} {t : TG} {mt : Ev → Out Bool} {me : Ev → Out (List D)} {items : List D} {J : It} {B : Base} {σ : Sts} {F H : Hp} {ρ : Ev} {Q : VK} {e : Str → Ev → Prop} {Dn : Addr}
    (hv : ∀ i ∈ vs, knd S i = 0) (hg : ∀ B F H σ ρ v d ρ1 (Q : Sts → Hp → Prop), SInv K S B σ F H ρ → Rp K F v d → g ρ d = some ρ1 → (∀ σ', SInv K S B σ' F H ρ1 → wipe σ' vs = wipe σ vs → Q σ' H) → t v σ H Q)
    (I : SInv K S B σ F H ρ) (wd : WalkD K F J items) (hl : items.length ≤ 16777216) (hD : H Dn = none)
    (h : Sat ((noE (compM g mt (mLst me) vs items (wipeE ρ vs))).bind fun ys ρ2 => Out.ok ys (restE ρ ρ2 vs)) (LLKo K S B σ F Q) e) :
    ∃ W' : Nat → Nat → Hp → Prop, (∃ m, W' 0 m (upd H Dn (.lst []))) ∧ ∀ i m H, W' i m H →
      (J.stop i H ∧ Q (.ref Dn) H) ∨ (J.go i H ∧ ∃ Nx : Hp → Prop, (∀ H', Nx H' → ∃ m', m' < m ∧ W' (i + 1) m' H') ∧ ∀ x H', J.yld i H x H' → t x (wipe σ vs) H' fun σ2 H2 => wipe σ2 vs = wipe σ vs ∧ tMT K mg W0 S mt σ2 H2 fun b H3 =>
        if b = true then tML K mg W0 S me σ2 H3 fun y H4 => ∃ acc, H4 Dn = some (.lst acc) ∧ acc.length < sizeLine ∧ Nx (upd H4 Dn (.lst (acc ++ [y]))) else Nx H3) := by
  have hsz := sizeLine_eq
  have hww : ∀ {σ' : Sts}, wipe σ' vs = wipe (wipe σ vs) vs → wipe σ' vs = wipe σ vs := fun {σ'} h => by
    rw [h]
    refine List.ext_getElem? fun i => ?_
    by_cases hi : i ∈ vs
    · have nn : ∀ (τ : Sts), τ.length = σ.length → ∀ (us : List Nat), i ∈ us → (wipe τ us)[i]? = if i < σ.length then some none else none := by
        intro τ hτ us
        induction us with
        | nil => intro z; cases z
        | cons u us ih =>
          intro z
          show ((wipe τ us).set u none)[i]? = _
          by_cases hu : u = i
          · subst hu
            by_cases hlt : u < σ.length
            · rw [List.getElem?_set_self (by rw [wipe_length, hτ]; exact hlt), if_pos hlt]
            · rw [List.getElem?_eq_none (by rw [List.length_set, wipe_length, hτ]; omega), if_neg hlt]
          · rw [List.getElem?_set_ne hu]
            refine ih ?_
            rcases List.mem_cons.mp z with z | z
            · exact absurd z.symm hu
            · exact z
      rw [nn _ (wipe_length σ vs) vs hi, nn _ rfl vs hi]
    · rw [wipe_out hi]
  have hB : B.H Dn = none := I.bnone hD
  let P : Nat → Hp → Prop := fun i H2 => i ≤ items.length ∧ ∃ F2 ρ2 bs ys, SInv K S B (wipe σ vs) F2 H2 ρ2 ∧ Same F F2 ∧ F2 Dn = none ∧ H2 Dn = some (.lst (bs.map V.ref)) ∧ OwLs K F2 H2 bs ys ∧ bs.length ≤ i ∧ (Dn :: bs).Nodup ∧ (∀ b, b ∈ bs → B.H b = none) ∧ (∀ j a, Held S (wipe σ vs) H2 ρ2 j a → a ∉ Dn :: bs) ∧
    Sat ((noE (compM g mt (mLst me) vs (items.drop i) ρ2)).bind fun zs ρ3 => Out.ok (ys ++ zs) (restE ρ ρ3 vs)) (LLKo K S B σ F2 Q) e
  refine ⟨fun i m H2 => m = items.length - i ∧ P i H2, ⟨_, rfl, Nat.zero_le _, F, wipeE ρ vs, [], [], ?_, Same.refl _, Same.free I.same hD, upd_same, .nil, Nat.le_refl _, by simp, (fun b z => by cases z), ?_, ?_⟩, ?_⟩
  · exact (I.newH hD).wipe vs hv
  · intro j a hh z
    have z' : a = Dn := by simpa using z
    exact (I.wipe vs hv).heldNe hD j a (held_same (fun c ec => by rw [upd_ne ((I.wipe vs hv).heldNe hD j c ((I.wipe vs hv).topHeld hh.1 hh.2.1 ec))]) hh) z'
  · simpa using h
  rintro i m H2 ⟨rfl, hi, F2, ρ2, bs, ys, I2, s2, nD, hDn, ra, la, nd, hBs, hn, h2⟩
  by_cases hlt : i < items.length
  · refine .inr ⟨wd.goes i H2 hlt (s2.trans I2.same), fun H' => P (i + 1) H', fun H' hP => ⟨items.length - (i + 1), by omega, rfl, hP⟩, fun x H' y => ?_⟩
    have hd : items.drop i = items[i] :: items.drop (i + 1) := List.drop_eq_getElem_cons hlt
    rw [hd] at h2
    have go : ∀ F4 H4, SInv K S B (wipe σ vs) F4 H4 ρ2 → Same F2 F4 → F4 Dn = none → H4 Dn = some (.lst (bs.map V.ref)) → OwLs K F4 H4 bs ys → (∀ j a, Held S (wipe σ vs) H4 ρ2 j a → a ∉ Dn :: bs) → Rp K F4 x items[i] → t x (wipe σ vs) H4 fun σ5 H5 => wipe σ5 vs = wipe σ vs ∧ tMT K mg W0 S mt σ5 H5 fun b H3 =>
        if b = true then tML K mg W0 S me σ5 H3 fun y H4 => ∃ acc, H4 Dn = some (.lst acc) ∧ acc.length < sizeLine ∧ P (i + 1) (upd H4 Dn (.lst (acc ++ [y]))) else P (i + 1) H3 := fun F4 H4 I4 s4 n4 d4 w4 hn4 r4 => by
      have h3 := noE_sat (Sat.bind h2) (fun _ _ => False)
      obtain ⟨ρ5, hg5, h5⟩ := sat_of (Sat.bind (show Sat ((Out.of (g ρ2 items[i]) ρ2).bind _) _ _ from h3))
      have I4r := I4.into
      refine hg _ F4 H4 _ ρ2 x items[i] ρ5 _ I4r r4 hg5 fun σ5 I5 w5 => ⟨hww w5, _, F4, ρ5, I5, (Sat.bind h5).mono (fun b ρ6 h6 F6 H6 I6 s6 => ?_) fun _ _ z => z.elim⟩
      -- what stands in Dn and below it is not touched
      have at4 : ∀ c, c ∈ Dn :: bs → F4 c = none ∧ H4 c ≠ none := fun c hc => by
        rcases List.mem_cons.mp hc with z | z
        · subst z; exact ⟨n4, by rw [d4]; simp⟩
        · obtain ⟨k, hk⟩ := List.mem_iff_getElem?.mp z
          obtain ⟨_, _, _, _, _, f, f', _⟩ := w4.gets hk
          exact ⟨f, by rw [f']; simp⟩
      have sf4 : ∀ c, c ∈ Dn :: bs → ∀ o, H4 c = some o → Soft o := fun c hc o ho => by
        rcases List.mem_cons.mp hc with z | z
        · subst z; rw [d4] at ho; cases ho; exact soft_lst
        · obtain ⟨k, hk⟩ := List.mem_iff_getElem?.mp z
          obtain ⟨_, _, _, _, _, f, f', _⟩ := w4.gets hk
          rw [f'] at ho; cases ho; exact soft_lst
      have no4 : ∀ c, c ∈ Dn :: bs → ¬ (reb B.T S (wipe σ vs) F4 H4 ρ2).O c := fun c hc => by
        obtain ⟨o, eo⟩ := Option.ne_none_iff_exists'.mp (at4 c hc).2
        exact reb_no I4.ext.tb (fun j a hh z => hn4 j a hh (z ▸ hc)) eo (sf4 c hc o eo)
      have keep : ∀ {F7 H7 ρ7}, SInv K S (reb B.T S (wipe σ vs) F4 H4 ρ2) σ5 F7 H7 ρ7 → ∀ c, c ∈ Dn :: bs → H7 c = H4 c ∧ F7 c = none := fun {F7 H7 ρ7} I7 c hc => by
        have nO := no4 c hc
        obtain ⟨f4, h4⟩ := at4 c hc
        obtain ⟨o, eo⟩ := Option.ne_none_iff_exists'.mp h4
        refine ⟨by rw [eo]; exact I7.ext.hs c o eo nO, ?_⟩
        cases q : F7 c with
        | none => rfl
        | some o =>
          rcases I7.ext.fr c o q with z | z | ⟨j, _, z⟩
          · have z : F4 c = some o := z
            rw [f4] at z; cases z
          · exact absurd (show H4 c = none from z) h4
          · exact absurd hc (hn4 j c z)
      have held7 : ∀ {F7 H7 ρ7}, SInv K S (reb B.T S (wipe σ vs) F4 H4 ρ2) σ5 F7 H7 ρ7 → ∀ j a, Held S (wipe σ vs) H7 (wipeE ρ7 vs) j a → Held S σ5 H7 ρ7 j a := fun {F7 H7 ρ7} I7 j a ⟨k, ⟨d, e1⟩, c, e2, h⟩ => by
        have hj : j ∉ vs := fun z => by rw [own_of0 (hv j z)] at k; cases k
        obtain ⟨e3, _⟩ := wipeE_at e1
        have e4 : σ5[j]? = (wipe σ vs)[j]? := by
          have := congrArg (fun l : Sts => l[j]?) w5
          simpa only [wipe_out hj] using this
        exact ⟨k, ⟨d, e3⟩, c, by rw [e4]; exact e2, h⟩
      have off7 : ∀ {F7 H7 ρ7}, SInv K S (reb B.T S (wipe σ vs) F4 H4 ρ2) σ5 F7 H7 ρ7 → ∀ j a, Held S (wipe σ vs) H7 (wipeE ρ7 vs) j a → a ∉ Dn :: bs := fun {F7 H7 ρ7} I7 j a hh z => by
        obtain ⟨_, _, o⟩ := I7.heldAt (held7 I7 j a hh)
        rcases o with ⟨z', _⟩ | o
        · exact no4 a z z'
        · exact absurd (show H4 a = none from o) (at4 a z).2
      have wiped : ∀ {F7 H7 ρ7}, SInv K S (reb B.T S (wipe σ vs) F4 H4 ρ2) σ5 F7 H7 ρ7 → SInv K S B (wipe σ vs) F7 H7 (wipeE ρ7 vs) := fun {F7 H7 ρ7} I7 => by
        have := (I4.back I7).wipe vs hv
        rwa [hww w5] at this
      have owl7 : ∀ {F7 H7 ρ7}, SInv K S (reb B.T S (wipe σ vs) F4 H4 ρ2) σ5 F7 H7 ρ7 → Same F4 F7 → OwLs K F7 H7 bs ys := fun {F7 H7 ρ7} I7 s7 => w4.up s7 fun c hc => by
        obtain ⟨q1, q2⟩ := keep I7 c (List.mem_cons_of_mem _ hc)
        exact ⟨q2, fun o z => by rw [q1]; exact z⟩
      cases b with
      | false =>
        refine iteF ⟨hlt, F6, wipeE ρ6 vs, bs, ys, wiped I6, (s2.trans s4).trans s6, (keep I6 Dn List.mem_cons_self).2, by rw [(keep I6 Dn List.mem_cons_self).1]; exact d4, owl7 I6 s6, by omega, nd, hBs, off7 I6, ?_⟩
        exact noE_bind h6 fun zs ρ7 h7 F' H' p cs I' s' => h7 F' H' p cs I' ((s4.trans s6).trans s')
      | true =>
        refine iteT ⟨_, F6, ρ6, I6, (Sat.bind (Sat.bind h6)).mono (fun zs ρ7 h7 F7 H7 p xs I7 s7 pF pH pr pB pn => ?_) fun _ _ z => z.elim⟩
        have hDk := keep I7 Dn List.mem_cons_self
        have pB4 : H4 p = none := pB
        have pD : p ≠ Dn := fun z => by subst z; rw [d4] at pB4; cases pB4
        have pbs : p ∉ bs := fun z => (at4 p (List.mem_cons_of_mem _ z)).2 pB4
        have pB0 : B.H p = none := I4.ext.st p pB4
        have heldP : ∀ j a, Held S (wipe σ vs) H7 (wipeE ρ7 vs) j a → a ≠ p := fun j a hh => pn j a (held7 I7 j a hh)
        refine ⟨bs.map V.ref, by rw [hDk.1]; exact d4, by rw [List.length_map]; omega, hlt, F7, wipeE ρ7 vs, bs ++ [p], ys ++ [.list zs], (wiped I7).setFree hDk.2 hB (fun j a hh => fun z => off7 I7 j a hh (by rw [z]; exact List.mem_cons_self)) (fun o0 e => by rw [hDk.1, d4] at e; cases e; exact soft_lst), ((s2.trans s4).trans s6).trans s7, hDk.2, ?_, ?_, ?_, ?_, ?_, ?_, ?_⟩
        · rw [upd_same, List.map_append]; rfl
        · refine OwLs.app ((owl7 I7 (s6.trans s7)).up (Same.refl _) fun c hc => ?_) (.cons ⟨xs, zs, rfl, pF, by rw [upd_ne pD]; exact pH, pr⟩ .nil)
          have hcD : c ≠ Dn := fun z => (List.nodup_cons.mp nd).1 (z ▸ hc)
          exact ⟨(keep I7 c (List.mem_cons_of_mem _ hc)).2, fun o z => by rw [upd_ne hcD]; exact z⟩
        · rw [List.length_append]; simp; omega
        · obtain ⟨n1, n2⟩ := List.nodup_cons.mp nd
          refine List.nodup_cons.mpr ⟨?_, ?_⟩
          · intro z
            rcases List.mem_append.mp z with z | z
            · exact n1 z
            · exact pD (by simpa using z : Dn = p).symm
          · rw [List.nodup_append]
            refine ⟨n2, by simp, fun c hc c' hc' => ?_⟩
            have : c' = p := by simpa using hc'
            subst this
            exact fun z => pbs (z ▸ hc)
        · intro b hb
          rcases List.mem_append.mp hb with z | z
          · exact hBs b z
          · have : b = p := by simpa using z
            subst this; exact pB0
        · intro j a hh z
          have hh' : Held S (wipe σ vs) H7 (wipeE ρ7 vs) j a := held_same (fun c ec => by
            have hc : Held S (wipe σ vs) H7 (wipeE ρ7 vs) j c := (wiped I7).topHeld hh.1 hh.2.1 ec
            rw [upd_ne (fun z => off7 I7 j c hc (by rw [z]; exact List.mem_cons_self))]) hh
          rcases List.mem_cons.mp z with z | z
          · exact off7 I7 j a hh' (by rw [z]; exact List.mem_cons_self)
          · rcases List.mem_append.mp z with z | z
            · exact off7 I7 j a hh' (List.mem_cons_of_mem _ z)
            · exact heldP j a hh' (by simpa using z)
        · refine noE_bind (Sat.bind h7) fun us ρ8 h8 F' H' p' cs I' s' => ?_
          rw [List.append_assoc]
          exact h8 F' H' p' cs I' (((s4.trans s6).trans s7).trans s')
    rcases wd.yields i H2 x H' items[i] (by simp [hlt]) (s2.trans I2.same) y with ⟨rfl, r⟩ | ⟨T, o, xs, ds, rfl, hT, ho, rfl, r, e⟩
    · exact go F2 H' I2 (Same.refl _) nD hDn ra hn (r.up s2)
    · have hF : F2 T = none := Same.free I2.same hT
      have sF := same_upd (o := .frz o (.tup xs)) hF
      have hne : Dn ≠ T := ne_of_none hDn hT
      have hb2 : ∀ c, c ∈ bs → c ≠ T ∧ F2 c = none := fun c hc => by
        obtain ⟨k, hk⟩ := List.mem_iff_getElem?.mp hc
        obtain ⟨_, _, _, _, _, f, f', _⟩ := ra.gets hk
        exact ⟨ne_of_none f' hT, f⟩
      refine go (upd F2 T (.frz o (.tup xs))) _ (I2.newF hT) sF (by rw [upd_ne hne]; exact nD) (by rw [upd_ne hne]; exact hDn) (ra.up sF fun c hc => ⟨by rw [upd_ne (hb2 c hc).1]; exact (hb2 c hc).2, fun o z => by rw [upd_ne (hb2 c hc).1]; exact z⟩)
        (fun j a hh => hn j a (held_same (fun c ec => by rw [upd_ne (I2.heldNe hT j c (I2.topHeld hh.1 hh.2.1 ec))]) hh)) ?_
      rw [e]
      exact .tup (.inl ⟨o, ho, upd_same⟩) ((r.up s2).up sF)
  · have e : i = items.length := by omega
    subst e
    rw [List.drop_length] at h2
    have h3 : LLKo K S B σ F2 Q (ys ++ []) (restE ρ ρ2 vs) := h2
    rw [List.append_nil] at h3
    refine .inl ⟨wd.stops H2 (s2.trans I2.same), h3 F2 H2 Dn bs (I.rest hv (hww rfl) (wipe_length σ vs) s2 I2) (Same.refl _) nD hDn ra nd (fun b hb => ?_) fun j a ⟨k, ⟨d, e1⟩, c, e2, h⟩ => ?_⟩
    · rcases List.mem_cons.mp hb with z | z
      · subst z; exact hB
      · exact hBs b z
    · have hj : j ∉ vs := fun z => by rw [own_of0 (hv j z)] at k; cases k
      rw [restE_out hj] at e1
      exact hn j a ⟨k, ⟨d, e1⟩, c, by rw [wipe_out hj]; exact e2, h⟩
end MW
namespace MW
open PySem PySem.Spec PyProof.Rows L2
section
variable {X : Cx} {W : WX} {S : Sg} {pos : Pos}
/-- no other name of slot i's lists is about, by a look -/
def noAlB (S : Sg) (i : Nat) (ρ : Ev) : Bool := (List.range ρ.length).all fun x => !(knd S x == 3) || !(ali S x == some i) || (ρ.getD x none).isNone
theorem noAlB_ok {S : Sg} {i : Nat} {ρ : Ev} (h : noAlB S i ρ = true) : NoAl S ρ i := fun x d k e e1 => by
  have hx : x < ρ.length := (List.getElem?_eq_some_iff.mp e1).1
  have := List.all_eq_true.mp h x (List.mem_range.mpr hx)
  rw [k, e, List.getD_eq_getElem?_getD, e1] at this
  simp at this
def mSetLL (S : Sg) (i : Nat) (m : Ev → Out (List D)) : Ev → Out Fl := fun ρ => (m ρ).bind fun ds ρ1 => if noAlB S i ρ1 = true then .ok .nx (ρ1.set i (some (.list ds))) else .bad
theorem setLL_sat {i : Nat} {m : Ev → Out (List D)} {t : TE} (k : knd S i = 2) (hp : Nat.ble S.np i = true)
    (q : ∀ B F H σ ρ Q, SInv X.K S B σ F H ρ → Sat (m ρ) (LLKo X.K S B σ F Q) (XKo X W S B σ F) → t σ H Q) : ∀ B F H σ ρ D, SInv X.K S B σ F H ρ → Sat (mSetLL S i m ρ) (FKo X.K S B F D) (XSo X W S B F) → tAsg t (gName i) D σ H := fun B F H σ ρ D I h =>
  q B F H σ ρ _ I (h.bind.mono (fun ds ρ1 h1 F1 H1 p bs I1 s1 hF hH r nd hB hn => by
    by_cases ha : noAlB S i ρ1 = true
    · rw [if_pos ha] at h1
      exact h1 F1 H1 _ (I1.setOw (bs := bs) (own_of2 k) (Nat.le_of_ble_eq_true hp) ⟨nd, by rw [k]; exact ⟨ds, rfl, hF, hH, r⟩⟩ hB hn (noAlB_ok ha)) s1
    · rw [if_neg ha] at h1; exact h1.elim) fun _ _ z => XSo.ex z)
theorem lc_allL {tg : Expr} {scope : Scope} {oS : List (Str × Nat)} {mi : Ev → Out (List D)} {g : Ev → D → Option Ev} {t : TG} {mt : Ev → Out Bool} {me : Ev → Out (List D)} {wi : TI} (hv : (oS.map (·.2)).all (fun i => knd S i == 0) = true)
    (hg : ∀ (s : Shared) (H : Hp) (C : Addr) (cl : List (Str × Addr)) (fp : List Addr), MG (X.blk s H scope (compEnvC scope cl C X.env) fp) S tg t (oS.map (·.2)) g)
    (qw : ∀ B F H σ ρ R, SInv X.K S B σ F H ρ → Sat (mi ρ) (IKo X.K S B σ F R) (XKo X W S B σ F) → wi σ H R) {B : Base} {F H : Hp} {σ : Sts} {ρ : Ev} {Q : VK} (s0 : Shared) (I : SInv X.K S B σ F H ρ)
    (h : Sat (mLc mi g mt (mLst me) (oS.map (·.2)) ρ) (LLKo X.K S B σ F Q) (XKo X W S B σ F)) : tLc wi t (tMT X.K X.mg W0 S mt) (tML X.K X.mg W0 S me) (oS.map (·.2)) σ H Q := by
  have hv' : ∀ i ∈ oS.map (·.2), knd S i = 0 := fun i hi => by
    have := List.all_eq_true.mp hv i hi
    simpa using this
  refine qw B F H σ ρ _ I ((Sat.bind h).mono (fun items ρ1 h1 F1 H1 J I1 s1 wd hl => fun Dn hD => ?_) fun _ _ z => z)
  refine lc_satL (e := fun _ _ => False) hv' (fun B F H σ ρ v d ρ1 Q I r e k => (hg s0 H 0 [] []).ok B F H σ ρ v d ρ1 Q I r e k) I1 wd hl hD ?_
  cases e1 : noE (compM g mt (mLst me) (oS.map (·.2)) items (wipeE ρ1 (oS.map (·.2)))) with
  | ok ys ρ2 =>
    rw [e1] at h1
    exact fun F' H' p bs I' s' => h1 F' H' p bs I' (s1.trans s')
  | err c ρ2 =>
    exfalso
    revert e1
    cases compM g mt (mLst me) (oS.map (·.2)) items (wipeE ρ1 (oS.map (·.2))) <;> intro e1 <;> cases e1
  | bad => rw [e1] at h1; exact h1.elim
/-- name = [a new list for ..], on one line or not -/
theorem ms_setLcLL (i : Nat) {y : Str} {py : Pos} {spos : Pos} {elt tg iter : Expr} {ifs : List Expr} {scope : Scope} {oS : List (Str × Nat)} {mi : Ev → Out (List D)} {g : Ev → D → Option Ev} {t : TG} {mt : Ev → Out Bool} {me : Ev → Out (List D)} (k : knd S i = 2) (hp : Nat.ble S.np i = true) (hc : X.calm = true) (hN : X.N.Nodup) (hy : X.N[i]? = some y) (hyl : X.env.scope.names.lookup y = some .local)
    (hsw : swapsWith (.ListComp elt [⟨tg, iter, ifs, 0⟩] scope pos) (some (.Name y py)) spos.line X.env = pure true) (hi : MI X W S tg iter mi) (ok : blkC X.N X.env.scope scope oS = true) (hv : (oS.map (·.2)).all (fun i => knd S i == 0) = true)
    (hg : ∀ (s : Shared) (H : Hp) (C : Addr) (cl : List (Str × Addr)) (fp : List Addr), MG (X.blk s H scope (compEnvC scope cl C X.env) fp) S tg t (oS.map (·.2)) g)
    (ht : ∀ (s : Shared) (H : Hp) (C : Addr) (cl : List (Str × Addr)) (fp : List Addr), MTs (X.blk s H scope (compEnvC scope cl C X.env) fp) W0 S ifs mt)
    (he : ∀ (s : Shared) (H : Hp) (C : Addr) (cl : List (Str × Addr)) (fp : List Addr), ML (X.blk s H scope (compEnvC scope cl C X.env) fp) W0 S elt me) (s0 : Shared := X.s_0) (hs : ∀ x, foldedSetIterable iter X.env x = pure x := by intro _; rfl) :
    MS X W S (.Assign [.Name y py] (.ListComp elt [⟨tg, iter, ifs, 0⟩] scope pos) spos) (mSetLL S i (mLc mi g mt (mLst me) (oS.map (·.2)))) := by
  obtain ⟨w, pw, qw⟩ := hi.ex
  refine ⟨_, ps_setLc (te := tML X.K X.mg W0 S me) (tt := tMT X.K X.mg W0 S mt) hc hN hy hyl hsw pw (blkOk_by ok) (fun s H C cl fp => (hg s H C cl fp).pg) (fun s H C cl fp => (ht s H C cl fp).run) (fun s H C cl fp => (he s H C cl fp).run) hs, ?_⟩
  exact setLL_sat k hp fun B F H σ ρ Q I h => lc_allL hv hg qw s0 I h
structure MQ (X : Cx) (S : Sg) (e : Expr) (q : Ev → Option D) : Prop where
  ex : ∃ t : TE, PE X e t ∧ ∀ B F H σ ρ Q d, SInv X.K S B σ F H ρ → q ρ = some d → (∀ v, Rp X.K F v d → Q v H) → t σ H Q
theorem mq_var (i : Nat) {x : Str} {p : Pos} (k : knd S i = 0 := by rfl) (hv : PE X (.Name x p) (tVar i)) : MQ X S (.Name x p) (fun ρ => rd ρ i) := ⟨_, hv, fun B F H σ ρ Q d I e h => by
  obtain ⟨v, e1, r⟩ := I.sh i d (rd_some e) k
  exact ⟨v, e1, h v r⟩⟩
def gIx : D → D → Option D
  | .list ds, .int i => atI ds i
  | .tuple ds, .int i => atI ds i
  | _, _ => none
theorem atI_rp {K : Fg} {F : Hp} {xs : List V} {ds : List D} {i : Int} {d : D} (r : RpL K F xs ds) (e : atI ds i = some d) : ∃ v, atI xs i = some v ∧ Rp K F v d := by
  unfold atI at e ⊢
  rw [r.len]
  obtain ⟨j, e1, e2⟩ := Option.bind_eq_some_iff.mp e
  obtain ⟨v, e3, q⟩ := r.get e2
  exact ⟨v, by rw [e1]; exact e3, q⟩
theorem mq_ix {a b : Expr} {qa qb : Ev → Option D} (ha : MQ X S a qa) (hb : MQ X S b qb) (hs : PlainIx b) : MQ X S (.Subscript a b pos) (fun ρ => (qa ρ).bind fun d => (qb ρ).bind fun e => gIx d e) := by
  obtain ⟨t, p, q⟩ := ha.ex
  obtain ⟨t', p', q'⟩ := hb.ex
  refine ⟨_, pe_ix ix_seq p p' hs, fun B F H σ ρ Q d I e h => ?_⟩
  obtain ⟨x, ex, e⟩ := Option.bind_eq_some_iff.mp e
  obtain ⟨y, ey, e⟩ := Option.bind_eq_some_iff.mp e
  refine q B F H σ ρ _ x I ex fun v rv => q' B F H σ ρ _ y I ey fun u ru => ?_
  unfold gIx at e
  split at e
  · cases rv with
    | lst hr r =>
      cases ru
      obtain ⟨z, ez, rz⟩ := atI_rp r e
      exact .inl ⟨_, _, _, z, rfl, rfl, .inl (rd_same I.same hr), ez, h z rz⟩
  · cases rv with
    | tup hr r =>
      cases ru
      obtain ⟨z, ez, rz⟩ := atI_rp r e
      exact .inr (.inl ⟨_, _, _, z, rfl, rfl, sqT_same I.same hr.sq, ez, h z rz⟩)
  · cases e
/-- rows[a][b] = e -/
def mStore2 (i : Nat) (me : Ev → Out D) (qa qb : Ev → Option D) : Ev → Out Fl := fun ρ => (me ρ).bind fun d ρ1 => match rd ρ1 i, qa ρ1, qb ρ1 with
  | some (.list dss), some (.int k), some (.int j) => match ixN dss.length k with
    | some n => match dss[n]? with
      | some (.list ds) => match ixN ds.length j with
        | some m => .ok .nx (ρ1.set i (some (.list (dss.set n (.list (ds.set m d))))))
        | none => .bad
      | _ => .bad
    | none => .bad
  | _, _, _ => .bad
theorem OwLs.item {K : Fg} {F H : Hp} {bs : List Addr} {dss : List D} {n : Nat} {ds : List D} (h : OwLs K F H bs dss) (e : dss[n]? = some (.list ds)) : ∃ b xs, bs[n]? = some b ∧ H b = some (.lst xs) ∧ RpL K F xs ds := by
  obtain ⟨b, e1, xs, ds', e2, _, e4, r⟩ := h.get e
  cases e2
  exact ⟨b, xs, e1, e4, r⟩
theorem ms_store2 (i : Nat) {x : Str} {p tpos ipos : Pos} {e ia ib : Expr} {me : Ev → Out D} {qa qb : Ev → Option D} (k : knd S i = 2) (hv : PE X (.Name x p) (tVar i)) (he : ME X W S e me) (ha : MQ X S ia qa) (hb : MQ X S ib qb) (hsa : PlainIx ia)
    (has : ∀ v, assign (.Subscript (.Subscript (.Name x p) ia ipos) ib tpos) X.env v = (do
      let ov ← holding [v] (eval (.Subscript (.Name x p) ia ipos) X.env)
      let iv ← holding [v, ov] (eval ib X.env)
      standAt tpos
      holding [v, ov, iv] (setItem ov iv v)
      release [v, ov, iv] []) := by intro _; rfl) (hs : swapsWithSole [.Subscript (.Subscript (.Name x p) ia ipos) ib tpos] e pos.line X.env = pure false := by rfl) (hw : swappedStores [.Subscript (.Subscript (.Name x p) ia ipos) ib tpos] e X.env = pure none := by rfl)
    (h1 : (assignEach [.Subscript (.Subscript (.Name x p) ia ipos) ib tpos] X.env).map (·.2) = [assign (.Subscript (.Subscript (.Name x p) ia ipos) ib tpos) X.env] := by rfl) : MS X W S (.Assign [.Subscript (.Subscript (.Name x p) ia ipos) ib tpos] e pos) (mStore2 i me qa qb) := by
  obtain ⟨t, pt, q⟩ := he.ex
  obtain ⟨ua, pa, qqa⟩ := ha.ex
  obtain ⟨ub, pb, qqb⟩ := hb.ex
  refine ⟨_, ps_asg pt (pg_sub (pe_ix ix_list hv pa hsa) pb set_list has) hs hw h1, fun B F H σ ρ D I h => ?_⟩
  refine q B F H σ ρ _ I ((Sat.bind h).mono (fun d ρ1 h1 F1 H1 v I1 s1 r1 => ?_) fun _ _ z => XSo.ex z)
  split at h1
  · rename_i dss kk j e1 e2 e3
    split at h1
    · rename_i n en
      split at h1
      · rename_i ds ed
        split at h1
        · rename_i m em
          obtain ⟨a, bs, dss', ea, e4, hF, hH, w, nd⟩ := deep_lst I1 k e1
          cases e4
          obtain ⟨b, xs, eb, hb, r⟩ := w.item ed
          refine ⟨_, ea, qqa B F1 H1 σ ρ1 _ _ I1 e2 fun u ru => ?_⟩
          cases ru
          refine ⟨a, _, kk, .ref b, rfl, rfl, .inl (.inl hH), ?_, ?_⟩
          · unfold atI
            rw [List.length_map, w.len, en]
            show (bs.map V.ref)[n]? = _
            rw [List.getElem?_map, eb]; rfl
          · refine qqb B F1 H1 σ ρ1 _ _ I1 e3 fun u ru => ?_
            cases ru
            exact ⟨b, xs, j, m, rfl, rfl, hb, by rw [r.len]; exact em, h1 F1 _ σ (I1.mutIn e1 k ea hH eb (r.set m r1)) s1⟩
        · exact h1.elim
      · exact h1.elim
    · exact h1.elim
  · exact h1.elim
/-- a list of lists as a value, for good -/
def mMoveD (S : Sg) (i : Nat) : Ev → Out D := fun ρ => (Out.of (rd ρ i) ρ).bind fun d ρ => if noAlB S i ρ = true then .ok d (ρ.set i none) else .bad
theorem freeze_all {K : Fg} {B : Base} {σ : Sts} {H : Hp} {ρ : Ev} : ∀ {bs : List Addr} {ds : List D} {F : Hp}, SInv K S B σ F H ρ → OwLs K F H bs ds → bs.Nodup → (∀ b, b ∈ bs → B.H b = none ∨ B.M b) → (∀ j c, Held S σ H ρ j c → c ∉ bs) →
    ∃ F', SInv K S B σ F' H ρ ∧ Same F F' ∧ RpL K F' (bs.map V.ref) ds ∧ ∀ c, c ∉ bs → F' c = F c
  | [], _, F, I, h, _, _, _ => by cases h; exact ⟨F, I, Same.refl _, .nil, fun _ _ => rfl⟩
  | b :: bs, _, F, I, h, nd, hB, hn => by
    cases h with
    | cons w h =>
      obtain ⟨nb, nd'⟩ := List.nodup_cons.mp nd
      obtain ⟨xs, ds, rfl, f, f', r⟩ := w
      have I1 := I.freeze f f' (hB b List.mem_cons_self) (fun j c hh z => hn j c hh (by rw [z]; exact List.mem_cons_self)) soft_lst
      have sF := same_upd (o := .lst xs) f
      have h' : OwLs K (upd F b (.lst xs)) H bs _ := h.up sF fun c hc => by
        have hne : c ≠ b := fun z => nb (z ▸ hc)
        obtain ⟨k, hk⟩ := List.mem_iff_getElem?.mp hc
        obtain ⟨_, _, _, _, _, g, _, _⟩ := h.gets hk
        exact ⟨by rw [upd_ne hne]; exact g, fun o q => q⟩
      obtain ⟨F', I', s', r', k'⟩ := freeze_all I1 h' nd' (fun c hc => hB c (List.mem_cons_of_mem _ hc)) fun j c hh z => hn j c hh (List.mem_cons_of_mem _ z)
      refine ⟨F', I', sF.trans s', .cons (.lst (.inl (s' _ _ upd_same)) ((r.up sF).up s')) r', fun c hc => ?_⟩
      rw [k' c fun z => hc (List.mem_cons_of_mem _ z), upd_ne fun z => hc (by rw [z]; exact List.mem_cons_self)]
theorem me_moveD (i : Nat) {x : Str} {p : Pos} (k : knd S i = 2) (hp : Nat.ble S.np i = true) (hv : PE X (.Name x p) (tVar i)) : ME X W S (.Name x p) (mMoveD S i) := by
  refine ⟨_, hv, fun B F H σ ρ Q I h => ?_⟩
  obtain ⟨d, e1, h3⟩ := sat_of (Sat.bind h)
  by_cases ha : noAlB S i ρ = true
  · rw [if_pos ha] at h3
    obtain ⟨a, bs, ds, ea, e2, hF, hH, w, nd⟩ := deep_lst I k e1
    have wx : OwX X.K F H (knd S i) a bs d := ⟨nd, by rw [k]; exact ⟨ds, e2, hF, hH, w⟩⟩
    have I' := I.drop i (noAlB_ok ha)
    have hh := fun c hc => (wx.held (S := S) (own_of2 k) (rd_some e1) ea c).mpr hc
    have hn : ∀ j c, Held S σ H (ρ.set i none) j c → c ∉ a :: bs := fun j c h z => by
      obtain ⟨hj, h⟩ := dropped I h
      exact hj (I.nd j i c h (hh c z))
    have hB : ∀ c, c ∈ a :: bs → B.H c = none ∨ B.M c := fun c hc => by
      rcases (I.heldAt (hh c hc)).2.2 with o | o
      · exact .inr (o.2 (Nat.le_of_ble_eq_true hp))
      · exact .inl o
    obtain ⟨na, nd'⟩ := List.nodup_cons.mp nd
    obtain ⟨F', J, s', r, kp⟩ := freeze_all I' w nd' (fun c hc => hB c (List.mem_cons_of_mem _ hc)) fun j c h z => hn j c h (List.mem_cons_of_mem _ z)
    refine ⟨.ref a, ea, ?_⟩
    subst e2
    have hF' : F' a = none := by rw [kp a na]; exact hF
    refine h3 _ _ _ (J.freeze hF' hH (hB a List.mem_cons_self) (fun j c h z => hn j c h (by rw [z]; exact List.mem_cons_self)) soft_lst) (s'.trans (same_upd hF')) (.lst (.inl upd_same) (r.up (same_upd hF')))
  · rw [if_neg ha] at h3; exact h3.elim
end
end MW
namespace MW
open PySem PySem.Spec PyProof.Rows L2
section
variable {X : Cx} {W : WX} {S : Sg} {a b c : Expr} {pos : Pos} {ma mb mc : Ev → Out D}
theorem opd_ix : OpD X (rIx X.K) gIx := by
  intro S B F H σ ρ Q x y d e z I rx ry hz k
  unfold gIx at hz
  split at hz
  · obtain ⟨p, xs, rfl, h1, r1⟩ := rx.lst I.same
    obtain ⟨v, e1, rv⟩ := atI_rp r1 hz
    exact .inl ⟨p, xs, _, v, rfl, ry.int, .inl h1, e1, k.now I rv⟩
  · obtain ⟨p, xs, rfl, h1, r1⟩ := rx.tup I.same
    obtain ⟨v, e1, rv⟩ := atI_rp r1 hz
    exact .inr (.inl ⟨p, xs, _, v, rfl, ry.int, h1, e1, k.now I rv⟩)
  · cases hz
theorem me_at (ha : ME X W S a ma) (hb : ME X W S b mb) (hs : PlainIx b) : ME X W S (.Subscript a b pos) (mBin gIx ma mb) := me_ix ix_seq opd_ix ha hb hs
theorem me_atO (i : Nat) {x : Str} {p : Pos} (k : knd S i = 1) (hb : ME X W S b mb) (hs : PlainIx b) (hv : PE X (.Name x p) (tVar i)) : ME X W S (.Subscript (.Name x p) b pos) (mOwnBin gIx i mb) := me_ixO i ix_seq opd_ix k hb hs hv
theorem me_eq (hu : X.A.units + 64 < cLine) (ha : ME X W S a ma) (hb : ME X W S b mb) : ME X W S (.Compare a [.Eq] [b] pos) (mBin (gB bEq) ma mb) := me_cmp (op_eqM hu) opb_eq.opD ha hb (nomark _)
theorem me_is (ha : ME X W S a ma) (hb : ME X W S b mb) : ME X W S (.Compare a [.Is] [b] pos) (mBin (gB bIs) ma mb) := me_cmp (op_isN.or op_isBl) opb_is.opD ha hb (nomark _)
theorem mt_eq (hu : X.A.units + 64 < cLine) (ha : ME X W S a ma) (hb : ME X W S b mb) : MT X W S (.Compare a [.Eq] [b] pos) (mTest bEq ma mb) := mt_cmp (op_eqM hu) opb_eq ha hb (nomark _)
theorem mt_ne (hu : X.A.units + 64 < cLine) (ha : ME X W S a ma) (hb : ME X W S b mb) : MT X W S (.Compare a [.NotEq] [b] pos) (mTest bNe ma mb) := mt_cmp (op_neM hu) opb_ne ha hb (nomark _)
theorem mt_lt (ha : ME X W S a ma) (hb : ME X W S b mb) : MT X W S (.Compare a [.Lt] [b] pos) (mTest bLt ma mb) := mt_cmp op_lt opb_lt ha hb (nomark _)
theorem mt_gt (ha : ME X W S a ma) (hb : ME X W S b mb) : MT X W S (.Compare a [.Gt] [b] pos) (mTest bGt ma mb) := mt_cmp op_gt opb_gt ha hb (nomark _)
theorem mt_is (ha : ME X W S a ma) (hb : ME X W S b mb) : MT X W S (.Compare a [.Is] [b] pos) (mTest bIs ma mb) := mt_cmp (op_isN.or op_isBl) opb_is ha hb (nomark _)
theorem mt_isNot (ha : ME X W S a ma) (hb : ME X W S b mb) : MT X W S (.Compare a [.IsNot] [b] pos) (mTest bIsNot ma mb) := mt_cmp (op_notN.or op_notBl) opb_isNot ha hb (nomark _)
theorem mt_notIn (hu : X.A.units + 65 < cLine) (ha : ME X W S a ma) (hb : ME X W S b mb) (hm : behindInMarks .NotIn b = false) : MT X W S (.Compare a [.NotIn] [b] pos) (mTest bNotIn ma mb) := mt_cmp (op_notInM hu) opb_notIn ha hb hm
theorem mt_leLe (ha : ME X W S a ma) (hb : ME X W S b mb) (hc : ME X W S c mc) (hm : lastMarks [.LtE, .LtE] [b, c] = false := by with_unfolding_all rfl) : MT X W S (.Compare a [.LtE, .LtE] [b, c] pos) (mChainT bLe bLe ma mb mc) := mt_chain op_le op_le opb_le opb_le ha hb hc hm
theorem me_leLt (ha : ME X W S a ma) (hb : ME X W S b mb) (hc : ME X W S c mc) (hm : lastMarks [.LtE, .Lt] [b, c] = false := by with_unfolding_all rfl) : ME X W S (.Compare a [.LtE, .Lt] [b, c] pos) (mOfB (mChainT bLe bLt ma mb mc)) := me_chain op_le op_lt opb_le opb_lt ha hb hc hm
end
def gLen : List D → Option D
  | [.list ds] => some (.int ds.length)
  | [.tuple ds] => some (.int ds.length)
  | [.str x] => if x.length ≤ 16777216 then some (.int x.length) else none
  | _ => none
def intD : D → Option Int
  | .int i => some i
  | _ => none
def intsD (ds : List D) : Option (List Int) := ds.mapM intD
def boolD : D → Option Bool
  | .bool b => some b
  | _ => none
def boolsD (ds : List D) : Option (List Bool) := ds.mapM boolD
theorem intsD_eq : ∀ {ds : List D} {ns : List Int}, intsD ds = some ns → ds = ns.map .int
  | [], ns, h => by
    simp [intsD] at h
    subst h; rfl
  | d :: ds, ns, h => by
    simp only [intsD, List.mapM_cons, Option.bind_eq_bind, Option.bind_eq_some_iff] at h
    obtain ⟨i, hi, ms, hm, e⟩ := h
    cases e
    cases d <;> cases hi
    rw [List.map_cons, ← intsD_eq (show intsD ds = some ms from hm)]
theorem boolsD_eq : ∀ {ds : List D} {ns : List Bool}, boolsD ds = some ns → ds = ns.map .bool
  | [], ns, h => by
    simp [boolsD] at h
    subst h; rfl
  | d :: ds, ns, h => by
    simp only [boolsD, List.mapM_cons, Option.bind_eq_bind, Option.bind_eq_some_iff] at h
    obtain ⟨i, hi, ms, hm, e⟩ := h
    cases e
    cases d <;> cases hi
    rw [List.map_cons, ← boolsD_eq (show boolsD ds = some ms from hm)]
theorem rpL_ints {K : Fg} {F : Hp} : ∀ {xs : List V} {ns : List Int}, RpL K F xs (ns.map .int) → xs = ns.map V.int
  | _, [], h => by cases h; rfl
  | _, n :: ns, h => by
    cases h with
    | cons a r => cases a; rw [rpL_ints r]; rfl
theorem rpL_bools {K : Fg} {F : Hp} : ∀ {xs : List V} {ns : List Bool}, RpL K F xs (ns.map .bool) → xs = ns.map V.bl
  | _, [], h => by cases h; rfl
  | _, n :: ns, h => by
    cases h with
    | cons a r => cases a; rw [rpL_bools r]; rfl
def maxI : List Int → Int
  | [] => 0
  | x :: xs => xs.foldl (fun m y => if m < y then y else m) x
theorem foldl_max : ∀ (xs : List Int) (m : Int), (xs.foldl (fun m y => if m < y then y else m) m = m ∨ xs.foldl (fun m y => if m < y then y else m) m ∈ xs) ∧ m ≤ xs.foldl (fun m y => if m < y then y else m) m ∧ ∀ y ∈ xs, y ≤ xs.foldl (fun m y => if m < y then y else m) m
  | [], m => ⟨.inl rfl, Int.le_refl _, fun _ h => by cases h⟩
  | x :: xs, m => by
    have ih := foldl_max xs (if m < x then x else m)
    rw [List.foldl_cons]
    obtain ⟨h1, h2, h3⟩ := ih
    refine ⟨?_, ?_, fun y hy => ?_⟩
    · rcases h1 with h | h
      · rw [h]
        split
        · exact .inr List.mem_cons_self
        · exact .inl rfl
      · exact .inr (List.mem_cons_of_mem _ h)
    · refine Int.le_trans ?_ h2
      split <;> omega
    · rcases List.mem_cons.mp hy with z | z
      · subst z
        refine Int.le_trans ?_ h2
        split <;> omega
      · exact h3 y z
theorem maxI_mem {xs : List Int} (h : xs ≠ []) : maxI xs ∈ xs := by
  cases xs with
  | nil => exact absurd rfl h
  | cons x xs =>
    rcases (foldl_max xs x).1 with z | z
    · show xs.foldl _ x ∈ _
      rw [z]; exact List.mem_cons_self
    · exact List.mem_cons_of_mem _ z
theorem le_maxI {xs : List Int} {y : Int} (h : y ∈ xs) : y ≤ maxI xs := by
  cases xs with
  | nil => cases h
  | cons x xs =>
    rcases List.mem_cons.mp h with z | z
    · subst z; exact (foldl_max xs y).2.1
    · exact (foldl_max xs x).2.2 y z
theorem maxI_eq {xs : List Int} {m : Int} (h : m ∈ xs) (h' : ∀ y ∈ xs, y ≤ m) : m = maxI xs := by
  have h1 := le_maxI h
  have h2 := h' _ (maxI_mem (List.ne_nil_of_mem h))
  omega
def gMax : List D → Option D
  | [.int i, .int j] => some (.int (if j > i then j else i))
  | [.list ds] => (intsD ds).bind fun ns => if ns = [] then none else some (.int (maxI ns))
  | [.tuple ds] => (intsD ds).bind fun ns => if ns = [] then none else some (.int (maxI ns))
  | _ => none
def gAll : List D → Option D
  | [.list ds] => (boolsD ds).map fun ns => .bool (ns.all id)
  | _ => none
def gListOf : List D → Option (List D)
  | [.list ds] => some ds
  | [.tuple ds] => some ds
  | _ => none
def gTupleOf : List D → Option D
  | [.list ds] => some (.tuple ds)
  | [.tuple ds] => some (.tuple ds)
  | _ => none
section
variable {X : Cx}
theorem seen1 {K : Fg} {F H : Hp} {xs : List V} {d : D} (r : RpSs K F H xs [d]) : ∃ x, xs = [x] ∧ RpS K F H x d := by
  cases r with
  | cons r rr => cases rr; exact ⟨_, rfl, r⟩
theorem seen2 {K : Fg} {F H : Hp} {xs : List V} {d e : D} (r : RpSs K F H xs [d, e]) : ∃ x y, xs = [x, y] ∧ RpS K F H x d ∧ RpS K F H y e := by
  cases r with
  | cons r rr =>
    obtain ⟨y, rfl, r'⟩ := seen1 rr
    exact ⟨_, _, rfl, r, r'⟩
theorem cd_len : CallD X (fun xs H Q => (∃ p ys, xs = [.ref p] ∧ (SqL X.K H p ys ∨ SqT X.K H p ys) ∧ Q (.int ys.length) H) ∨ (∃ z, xs = [.str z] ∧ z.length ≤ sizeLine ∧ Q (.int z.length) H) ∨ ∃ a kvs, xs = [V.ref a] ∧ H a = some (.dK kvs) ∧ Q (.int kvs.length) H) gLen := by
  intro S B F H σ ρ Q xs ds z I r hz k
  have hsz := sizeLine_eq
  unfold gLen at hz
  split at hz
  · cases hz
    obtain ⟨x, rfl, rx⟩ := seen1 r
    obtain ⟨p, ys, rfl, h1, r1⟩ := rx.lst I.same
    refine .inl ⟨p, ys, rfl, .inl (.inl h1), ?_⟩
    rw [r1.len]; exact k.now I (.int _)
  · cases hz
    obtain ⟨x, rfl, rx⟩ := seen1 r
    obtain ⟨p, ys, rfl, h1, r1⟩ := rx.tup I.same
    refine .inl ⟨p, ys, rfl, .inr h1, ?_⟩
    rw [r1.len]; exact k.now I (.int _)
  · split at hz
    · cases hz
      obtain ⟨x, rfl, rx⟩ := seen1 r
      exact .inr (.inl ⟨_, by rw [rx.str], by omega, k.now I (.int _)⟩)
    · cases hz
  · cases hz
theorem max_tup {prog : Program} {w : World} {A : Around} {E : Value → Shared → Prop} {s : Shared} {l : Addr} {its : List Value} {ns : List Int} {Q : Value → Shared → Prop} (hh : A.handled = none) (hl : s.heap.IsTuple l its.toArray) (hi : IntsAre its ns) (hne : 0 < ns.length)
    (h : ∀ h' tk M t', (∀ b o, s.heap.get? b = some o → h'.get? b = some o) → M ∈ ns → (∀ a, a ∈ ns → a ≤ M) → Q (.int M t') { s with heap := h', toks := tk }) : wpAny (model prog w) A (call (.builtin "max") [.ref l]) Q E s := by
  obtain ⟨xs, e⟩ := hi.allInts.items
  have hn : numsOf (intItems xs).toList = ns := by rw [← e]; exact hi.numsOf
  rw [nums_intItems] at hn
  subst hn
  rw [e] at hl
  have hsz : 0 < xs.size := by simpa using hne
  have hlt : l < s.heap.objs.size := by obtain ⟨_, e, _⟩ := hl; exact Heap.lt_size e
  refine call_max_walk (wpAny_pyIter_tuple hl ?_)
  refine ⟨_, _, _, _, _, _, _, rfl, Walks.tuple (A := A.in1) hh s.heap.objs.size l (Nat.ne_of_lt hlt) (intItems xs), ⟨⟨_, Heap.get?_push_size _ rfl, rfl, rfl⟩, hl.at fun o e => Heap.get?_push_of_some _ e⟩, fun b hb => ?_, by simpa [intItems] using hsz, CmpOf.ints_gt (numAt xs) (fun _ _ => intItems_at), fun v h' tk hP hk => ?_⟩
  · show b < (s.heap.push _).objs.size
    rw [Heap.size_push]
    rcases List.mem_cons.mp hb with rfl | hb
    · exact Nat.lt_succ_self _
    · rcases List.mem_cons.mp hb with rfl | hb
      · exact Nat.lt_succ_of_lt hlt
      · cases hb
  · have hv : (intItems xs)[argBest (fun i j => decide (numAt xs i > numAt xs j)) (xs.size - 1)]? = some v := by simpa [intItems] using hP
    obtain ⟨t, rfl⟩ := intItems_at hv
    obtain ⟨h1, h2⟩ := argBest_gt (numAt xs) (xs.size - 1)
    refine h h' tk _ t (fun b o e => hk b o (fun hm => ?_) (Heap.get?_push_of_some _ e)) ?_ fun a ha => ?_
    · rcases List.mem_cons.mp hm with e1 | hm
      · exact absurd (e1 ▸ Heap.lt_size e) (Nat.lt_irrefl _)
      · cases hm
    · rw [numAt_eq]; exact PySem.getD_mem (by rw [List.length_map, Array.length_toList]; omega)
    · obtain ⟨j, hj, rfl⟩ := mem_getD ha
      rw [List.length_map, Array.length_toList] at hj
      rw [← numAt_eq]; exact h2 j (by omega)
def rMaxT (K : Fg) : List V → Hp → VK → Prop := fun vs H Q => ∃ (a : Addr) (ns : List Int), vs = [V.ref a] ∧ SqT K H a (ns.map V.int) ∧ 0 < ns.length ∧ ∀ m, m ∈ ns → (∀ y, y ∈ ns → y ≤ m) → Q (.int m) H
theorem cr_maxT (hc : X.calm = true) : CallR X (.builtin "max") (rMaxT X.K) := by
  intro pins s σ H vs us Q I r h
  obtain ⟨a, ns, rfl, hs, hne, q⟩ := h
  obtain ⟨its, rv, hl, _⟩ := I.tuple hs
  rw [Vals.ref1 r]
  exact max_tup (I.ok.hd hc) hl rv.ints hne fun h' tk m t' hk h1 h2 => ⟨.int _, H, I.kept hk, ⟨_, rfl⟩, q m h1 h2⟩
theorem cd_max : CallD X (fun xs H Q => (∃ i j, xs = [.int i, .int j] ∧ Q (.int (if j > i then j else i)) H) ∨ rMax X.K xs H Q ∨ rMaxT X.K xs H Q) gMax := by
  intro S B F H σ ρ Q xs ds z I r hz k
  unfold gMax at hz
  split at hz
  · cases hz
    obtain ⟨x, y, rfl, rx, ry⟩ := seen2 r
    exact .inl ⟨_, _, by rw [rx.int, ry.int], k.now I (.int _)⟩
  · obtain ⟨ns, e, hz⟩ := Option.bind_eq_some_iff.mp hz
    split at hz
    · cases hz
    · cases hz
      rename_i hne
      obtain ⟨x, rfl, rx⟩ := seen1 r
      obtain ⟨p, ys, rfl, h1, r1⟩ := rx.lst I.same
      rw [intsD_eq e] at r1
      rw [rpL_ints r1] at h1
      refine .inr (.inl ⟨p, ns, rfl, .inl h1, List.length_pos_iff.mpr hne, fun m hm h2 => ?_⟩)
      rw [maxI_eq hm h2]
      exact k.now I (.int _)
  · obtain ⟨ns, e, hz⟩ := Option.bind_eq_some_iff.mp hz
    split at hz
    · cases hz
    · cases hz
      rename_i hne
      obtain ⟨x, rfl, rx⟩ := seen1 r
      obtain ⟨p, ys, rfl, h1, r1⟩ := rx.tup I.same
      rw [intsD_eq e] at r1
      rw [rpL_ints r1] at h1
      refine .inr (.inr ⟨p, ns, rfl, h1, List.length_pos_iff.mpr hne, fun m hm h2 => ?_⟩)
      rw [maxI_eq hm h2]
      exact k.now I (.int _)
  · cases hz
theorem cd_all : CallD X (rAll X.K) gAll := by
  intro S B F H σ ρ Q xs ds z I r hz k
  unfold gAll at hz
  split at hz
  · obtain ⟨ns, e, rfl⟩ := Option.map_eq_some_iff.mp hz
    obtain ⟨x, rfl, rx⟩ := seen1 r
    obtain ⟨p, ys, rfl, h1, r1⟩ := rx.lst I.same
    rw [boolsD_eq e] at r1
    rw [rpL_bools r1] at h1
    exact ⟨p, ns, rfl, .inl h1, k.now I (.bl _)⟩
  · cases hz
theorem cl_list : CallL X (fun xs H Q => ∃ p ys, xs = [.ref p] ∧ (SqL X.K H p ys ∨ SqT X.K H p ys) ∧ ∀ l, H l = none → Q (.ref l) (upd H l (.lst ys))) gListOf := by
  intro S B F H σ ρ Q xs ds z I r hz k
  unfold gListOf at hz
  split at hz
  · cases hz
    obtain ⟨x, rfl, rx⟩ := seen1 r
    obtain ⟨p, ys, rfl, h1, r1⟩ := rx.lst I.same
    exact ⟨p, ys, rfl, .inl (.inl h1), fun l hl => LKo.mk k I r1 hl⟩
  · cases hz
    obtain ⟨x, rfl, rx⟩ := seen1 r
    obtain ⟨p, ys, rfl, h1, r1⟩ := rx.tup I.same
    exact ⟨p, ys, rfl, .inr h1, fun l hl => LKo.mk k I r1 hl⟩
  · cases hz
theorem call_tuple_ofM : CallR X (.type "tuple") (fun xs H Q => ∃ p ys, xs = [.ref p] ∧ ((SqL X.K H p ys ∧ ∀ (l : Addr) (o : Obj), o.dict = none → H l = none → Q (.ref l) (upd H l (.frz o (.tup ys)))) ∨ (SqT X.K H p ys ∧ Q (.ref p) H))) := by
  intro pins s σ H xs us Q I r ⟨p, ys, e, h⟩
  rcases h with ⟨hq, q⟩ | h
  · subst e
    obtain ⟨u, rfl, rx⟩ := vals1 r
    cases rx
    obtain ⟨its, rv, pl, hz⟩ := I.list hq
    have hl := rv.length
    exact call_tuple_list pl.isList (fun h' kp => mkT (s := { s with heap := h' }) (I.kept (t' := s.toks) kp) rv hz q) (by rw [List.size_toArray]; omega)
  · exact call_tuple_of pins s σ H xs us Q I r ⟨p, ys, e, .inr h⟩
theorem cd_tuple : CallD X (fun xs H Q => ∃ p ys, xs = [.ref p] ∧ ((SqL X.K H p ys ∧ ∀ (l : Addr) (o : Obj), o.dict = none → H l = none → Q (.ref l) (upd H l (.frz o (.tup ys)))) ∨ (SqT X.K H p ys ∧ Q (.ref p) H))) gTupleOf := by
  intro S B F H σ ρ Q xs ds z I r hz k
  unfold gTupleOf at hz
  split at hz
  · cases hz
    obtain ⟨x, rfl, rx⟩ := seen1 r
    obtain ⟨p, ys, rfl, h1, r1⟩ := rx.lst I.same
    exact ⟨p, ys, rfl, .inl ⟨.inl h1, fun l o ho hl => k.tup I r1 ho hl⟩⟩
  · cases hz
    obtain ⟨x, rfl, rx⟩ := seen1 r
    obtain ⟨p, ys, rfl, h1, r1⟩ := rx.tup I.same
    refine ⟨p, ys, rfl, .inr ⟨h1, ?_⟩⟩
    rcases rx with rx | ⟨_, _, _, _, e, _⟩
    · exact k.now I rx
    · cases e
  · cases hz
variable {W : WX} {S : Sg} {a e : Expr} {es : List Expr} {p pos : Pos} {ms : Ev → Out (List D)}
theorem me_len (hg : Gl X "len") (hm : X.mg "len" = none) (ha : MA X W S [e] ms) (he : starEach [e] X.env = (false, eval e X.env) :: starEach [] X.env := by rfl) (hpl : (backTo pos (starEach [] X.env)).any (·.1) = false := by rfl) : ME X W S (.Call (.Name "len" p) [e] [] pos) (mCall gLen ms) :=
  me_callV cd_len ha fun t pt => pe_callB (call_len_seq.or (call_len_str.or call_lenD)) hg hm PySem.boot_len pt (by decide) (by decide) he hpl
theorem me_lenO (i : Nat) {x : Str} {p' : Pos} (k : knd S i = 1) (hv : PE X (.Name x p') (tVar i)) (hg : Gl X "len") (hm : X.mg "len" = none) (he : starEach [.Name x p'] X.env = (false, eval (.Name x p') X.env) :: starEach [] X.env := by rfl) (hpl : (backTo pos (starEach [] X.env)).any (·.1) = false := by rfl) : ME X W S (.Call (.Name "len" p) [.Name x p'] [] pos) (mCallO gLen i) :=
  me_callO i cd_len k (fun t pt => pe_callB (call_len_seq.or (call_len_str.or call_lenD)) hg hm PySem.boot_len pt (by decide) (by decide) he hpl) hv
theorem me_max (hc : X.calm = true) (hg : Gl X "max") (hm : X.mg "max" = none) (ha : MA X W S (e :: es) ms) (hv : bootBuiltins "max" = some (.builtin "max") := by decide +kernel) (he : starEach (e :: es) X.env = (false, eval e X.env) :: starEach es X.env := by rfl) (hpl : (backTo pos (starEach es X.env)).any (·.1) = false := by rfl) : ME X W S (.Call (.Name "max" p) (e :: es) [] pos) (mCall gMax ms) :=
  me_callV cd_max ha fun t pt => pe_callB ((call_max2 hc).or ((cr_max hc).or (cr_maxT hc))) hg hm hv pt (by decide) (by decide) he hpl
theorem me_all (hc : X.calm = true) (hg : Gl X "all") (hm : X.mg "all" = none) (ha : MA X W S [e] ms) (hv : bootBuiltins "all" = some (.builtin "all") := by decide +kernel) (he : starEach [e] X.env = (false, eval e X.env) :: starEach [] X.env := by rfl) (hpl : (backTo pos (starEach [] X.env)).any (·.1) = false := by rfl) : ME X W S (.Call (.Name "all" p) [e] [] pos) (mCall gAll ms) :=
  me_callV cd_all ha fun t pt => pe_callB (cr_all hc) hg hm hv pt (by decide) (by decide) he hpl
theorem ml_list (hg : Gl X "list") (hm : X.mg "list" = none) (ha : MA X W S [e] ms) (hv : bootBuiltins "list" = some (.type "list") := by decide +kernel) (he : starEach [e] X.env = (false, eval e X.env) :: starEach [] X.env := by rfl) (hpl : (backTo pos (starEach [] X.env)).any (·.1) = false := by rfl) : ML X W S (.Call (.Name "list" p) [e] [] pos) (mCallL gListOf ms) :=
  ml_callV cl_list ha fun t pt => pe_callTy call_list_of hg hm hv pt (by decide) (by decide) he hpl
theorem me_tuple (hg : Gl X "tuple") (hm : X.mg "tuple" = none) (ha : MA X W S [e] ms) (hv : bootBuiltins "tuple" = some (.type "tuple") := by decide +kernel) (he : starEach [e] X.env = (false, eval e X.env) :: starEach [] X.env := by rfl) (hpl : (backTo pos (starEach [] X.env)).any (·.1) = false := by rfl) : ME X W S (.Call (.Name "tuple" p) [e] [] pos) (mCall gTupleOf ms) :=
  me_callV cd_tuple ha fun t pt => pe_callTy call_tuple_ofM hg hm hv pt (by decide) (by decide) he hpl
def tyD : D → String
  | .none => "NoneType"
  | .bool _ => "bool"
  | .int _ => "int"
  | .str _ => "str"
  | .list _ => "list"
  | .tuple _ => "tuple"
  | .dict _ => "dict"
def isD (T : String) (d : D) : Bool := tyD d == T || (tyD d == "bool" && T == "int")
theorem tyX_of {K : Fg} {F H : Hp} {v : V} {d : D} (s : Same F H) (r : Rp K F v d) : ∃ t, TyX K H v t ∧ ∀ T, insTs.contains T = true → L2.kitB (tyD d) T = some (isD T d) → PySem.W.kitOne K t (.type T) = some (isD T d) := by
  cases r with
  | non => exact ⟨_, .base .non, fun T _ h => kit_ty h⟩
  | bl b => exact ⟨_, .base (.bl b), fun T _ h => kit_ty h⟩
  | int i => exact ⟨_, .base (.int i), fun T _ h => kit_ty h⟩
  | str x => exact ⟨_, .base (.str x), fun T _ h => kit_ty h⟩
  | lst h r =>
    refine ⟨_, ?_, fun T _ h => kit_ty h⟩
    rcases rd_same s h with h | ⟨o, h⟩
    · exact .base (.lst h)
    · exact .base (.frz h)
  | tup h r =>
    refine ⟨_, ?_, fun T _ h => kit_ty h⟩
    rcases sqT_same s h.sq with (h | ⟨o, h⟩) | ⟨o, _, _, h, c, _⟩
    · exact .base (.tup h)
    · exact .fTuple h
    · exact .kTuple h c
  | dct h r => exact ⟨_, .fDict (s _ _ h), fun T _ h => kit_ty h⟩
  | ins h c r =>
    refine ⟨_, .base (.ins (s _ _ h) c.1.ic.cl c.1.ic.ha c.1.ic.hn c.1.ic.htk c.1.ic.hm), fun T hT _ => ?_⟩
    rw [c.1.ic.kd T hT]
    congr 1
    unfold isD tyD
    have : T ≠ "dict" := by rintro rfl; exact absurd hT (by decide)
    rw [beq_eq_false_iff_ne.mpr (Ne.symm this)]
    rfl
def mIsD (T : String) (ma : Ev → Out D) : Ev → Out D := fun ρ => (ma ρ).bind fun d ρ1 => .ok (.bool (isD T d)) ρ1
theorem me_isinst {T : String} {Tn : Str} {p2 : Pos} {ma : Ev → Out D} (hg : Gl X "isinstance") (hm : X.mg "isinstance" = none) (ha : ME X W S a ma) (hgT : Gl X Tn) (hmT : X.mg Tn = none) (hvT : bootBuiltins Tn = some (.type T)) (hkT : ∀ d : D, L2.kitB (tyD d) T = some (isD T d))
    (hv : bootBuiltins "isinstance" = some (.builtin "isinstance") := by decide +kernel) (hn : Tn ≠ "__name__" := by decide) (hdT : (Tn == ("__debug__" : Str)) = false := by decide)
    (hs : starEach [a, .Name Tn p2] X.env = (false, eval a X.env) :: starEach [.Name Tn p2] X.env := by rfl) (hs2 : starEach [.Name Tn p2] X.env = (false, eval (.Name Tn p2) X.env) :: starEach [] X.env := by rfl) (hpl : (backTo pos (starEach [.Name Tn p2] X.env)).any (·.1) = false := by rfl) (hI : insTs.contains T = true := by decide) : ME X W S (.Call (.Name "isinstance" p) [a, .Name Tn p2] [] pos) (mIsD T ma) := by
  obtain ⟨t, pt, q⟩ := ha.ex
  refine ⟨_, pe_callB call_isi hg hm hv (pa_cons pt (pa_cons (pe_bltn (v := .ty T) hgT hmT hvT rfl hn hdT) pa_nil hs2) hs) (by decide) (by decide) hs hpl, fun B F H σ ρ Q I h => ?_⟩
  refine q B F H σ ρ _ I ((Sat.bind h).mono (fun d ρ1 h1 F1 H1 v I1 s1 r1 => ?_) fun _ _ z => z)
  obtain ⟨ty, h2, h3⟩ := tyX_of I1.same r1
  exact ⟨v, .ty T, _, _, _, rfl, .ty T, h2, h3 T hI (hkT d), h1 F1 H1 _ I1 s1 (.bl _)⟩
end
end MW
namespace MW
open PySem PySem.Calls PySem.W PySem.SeqAt PyProof.Rows
section
variable {prog : Program} {w : World} {A : Around} {E : Value → Shared → Prop} {s : Shared}
theorem call_tuple_lt {Q : Value → Shared → Prop} {l b : Addr} {items items2 : Array Value} {e r : Nat → Bool} (hl : s.heap.IsTuple l items) (hb : s.heap.IsTuple b items2)
    (he : ∀ j (h1 : j < items.size) (h2 : j < items2.size), EqAt A.in1 s items[j] items2[j] (e j)) (hr : ∀ j (h1 : j < items.size) (h2 : j < items2.size), e j = false → RcLt A.in1 s items[j] items2[j] (r j))
    (h : Q (.bool (firstLt e r (decide (items.size < items2.size)) (List.range (min items.size items2.size)))) s) : wpAny (model prog w) A (call (.builtin "tuple.__lt__") [.ref l, .ref b]) Q E s := by
  obtain ⟨⟨cls, dd, data, sl⟩, ho, hc, n, hd⟩ := id hl
  obtain ⟨⟨cls2, dd2, data2, sl2⟩, ho2, hc2, n2, hd2⟩ := id hb
  simp only at hc hd hc2 hd2
  subst hc hd hc2 hd2
  exact call_meets F.slot_tuple_lt ⟨_, ho, rfl⟩ F.entry_tuple_lt (F.args_tuple_lt_2 _ _) (tuple_ltAt l b items items2 n n2 dd dd2 sl sl2 e r) ⟨ho, ho2, he, hr, h⟩
theorem oneLt_tuple {xs ys : List PyData} {a b : Value} {as bs : List Addr} {Q : Bool → Shared → Prop} (ra : Reads s.heap a (.tuple xs) as) (rb : Reads s.heap b (.tuple ys) bs) (h : alike (.tuple xs) (.tuple ys) = true)
    (hu : A.units + min (PyData.tuple xs).depth (PyData.tuple ys).depth < cLine) (hq : Q (dataLt (.tuple xs) (.tuple ys)) s) : wpAny (model prog w) A (oneLt' true a b) Q E s := by
  have hal : alikeAll xs ys = true := by simpa [alike] using h
  cases ra with
  | @tuple l o vs n _ as₁ h1 h2 h3 h4 =>
    cases rb with
    | @tuple l' o' vs' n' _ bs₁ k1 k2 k3 k4 =>
      have n1 : vs.size = xs.length := by simpa using ReadsAll.length _ _ _ h4
      have n2 : vs'.size = ys.length := by simpa using ReadsAll.length _ _ _ k4
      rw [dataLt_tuple, ← firstLt_toks xs ys hal, ← n1, ← n2] at hq
      rw [oneLt'_eq]
      simp only [if_true]
      refine wpAny_bind (wpAny_cRoomFor (room_here hu) ?_)
      refine wpAny_bind (wpAny_callSpecialIfBound?_slot (T := "tuple") ⟨_, h1, h2⟩ F.slot_tuple_lt (call_tuple_lt (e := pairEq xs ys) (r := fun j => dataLt (xs.getD j .none) (ys.getD j .none)) ⟨_, h1, h2, _, h3⟩ ⟨_, k1, k2, _, k3⟩ (fun j j1 j2 => ?_) (fun j j1 j2 hj => ?_) ?_))
      · have := eqAt_alikeAll xs ys A.in1 s vs.toList vs'.toList _ _ h4 k4 hal (room_in hu) j (by simpa using j1) (by simpa using j2)
        simpa using this
      · have := rcLt_alikeAll xs ys A.in1 s vs.toList vs'.toList _ _ h4 k4 hal (room_in hu) j (by simpa using j1) (by simpa using j2) hj
        simpa using this
      · exact wpAny_truthy_bool hq
/-- the first item of each tuple, if it has one -/
def FirstsOf (h : Heap) : List Value → List (Option Value) → Prop
  | [], [] => True
  | v :: vs, f :: fs => (∃ a o xs n, v = .ref a ∧ h.get? a = some o ∧ o.cls = .type "tuple" ∧ o.data = .seq xs n ∧ xs[0]? = f) ∧ FirstsOf h vs fs
  | _, _ => False
theorem firsts_ask {M : Model} : ∀ (vs : List Value) (fs : List (Option Value)) {Q : List (Option Value) → Shared → Prop}, FirstsOf s.heap vs fs → Q fs s → wpAny M A (vs.mapM firstOfTuple') Q E s
  | [], [], _, _, h => by rw [List.mapM_nil]; exact wpAny_pure h
  | [], _ :: _, _, t, _ => t.elim
  | _ :: _, [], _, t, _ => t.elim
  | v :: vs, f :: fs, Q, t, h => by
    obtain ⟨⟨a, o, xs, n, rfl, ho, hc, hd, hf⟩, t⟩ := t
    rw [List.mapM_cons]
    refine wpAny_bind ?_
    rw [kas_first_eq]
    refine wpAny_bind (Looks.here (show Looks M s.heap (typeOf (.ref a)) o.cls from (Looks.ld ho).andThen .now) ?_)
    rw [hc, if_neg (by first | decide | simp)]
    refine wpAny_bind (listItems_at ho hd (wpAny_pure ?_))
    rw [hf]
    exact wpAny_bind (firsts_ask vs fs (Q := fun bs s' => wpAny M A (pure (f :: bs)) Q E s') t (wpAny_pure h))
theorem reads_firsts {h : Heap} : ∀ {vs : List Value} {ds : List PyData}, EachIs (fun v d => ∃ as, Reads h v d as) vs ds → (∀ d, d ∈ ds → ∃ xs, d = .tuple xs) → ∃ fs, FirstsOf h vs fs ∧ fs.map (·.isSome) = ds.map fun d => match d with | .tuple (_ :: _) => true | _ => false
  | _, _, .nil, _ => ⟨[], trivial, rfl⟩
  | _, _, .cons (b := d) ⟨as, r⟩ t, ht => by
    obtain ⟨fs, h1, h2⟩ := reads_firsts t fun d hd => ht d (List.mem_cons_of_mem _ hd)
    obtain ⟨xs, rfl⟩ := ht d (List.mem_cons_self ..)
    cases r with
    | @tuple a o its n _ _ ho hc hd hr =>
      refine ⟨its[0]? :: fs, ⟨⟨a, o, its, n, rfl, ho, hc, hd, rfl⟩, h1⟩, ?_⟩
      rw [List.map_cons, List.map_cons, h2]
      congr 1
      have nl : its.size = xs.length := by simpa using ReadsAll.length _ _ _ hr
      cases xs with
      | nil =>
        have : its[0]? = none := by simp at nl; simp [nl]
        rw [this]; rfl
      | cons x xs =>
        have : 0 < its.size := by rw [nl]; simp
        simp [this]
theorem tuples_sortable {vs : List Value} {ds : List PyData} (e : EachIs (fun v d => ∃ as, Reads s.heap v d as) vs ds) (hal : AllAlike ds) (ht : ∀ d, d ∈ ds → ∃ xs, d = .tuple xs) (hu : ∀ d, d ∈ ds → A.units + d.depth < cLine) : SortsAt prog w A s (dataKind s.heap ds) vs := by
  have room : ∀ {d d' : PyData}, d ∈ ds → A.units + min d.depth d'.depth < cLine := fun {d d'} hd => Nat.lt_of_le_of_lt (Nat.add_le_add_left (Nat.min_le_left _ _) _) (hu d hd)
  by_cases full : ∀ d, d ∈ ds → ∃ x r, d = .tuple (x :: r)
  · exact SortsAt.data e hal (.inl full) hu
  refine ⟨fun v hv => ?_, ?_⟩
  · obtain ⟨d, hd, as, r⟩ := e.left v hv
    exact ⟨_, dataKind_some hal hd r⟩
  obtain ⟨fs, hf, he⟩ := reads_firsts e ht
  have nall : (fs.toArray.all fun x => x.isSome) = false := by
    rw [Bool.eq_false_iff]
    intro z
    refine full fun d hd => ?_
    rw [List.all_toArray] at z
    have z2 : ∀ b ∈ fs.map (·.isSome), b = true := fun b hb => by
      obtain ⟨x, hx, rfl⟩ := List.mem_map.mp hb
      exact List.all_eq_true.mp z x hx
    rw [he] at z2
    have := z2 _ (List.mem_map.mpr ⟨d, hd, rfl⟩)
    obtain ⟨xs, rfl⟩ := ht d hd
    cases xs with
    | nil => cases this
    | cons x r => exact ⟨x, r, rfl⟩
  by_cases h0 : ((fs.toArray[0]?).bind id).isSome = true
  · -- the first has an item
    refine ⟨general', ?_, fun h2 E Q hq => ?_⟩
    · intro E x y a b Q ha hb hq
      obtain ⟨d, as, hd, ra, rfl⟩ := dataKind_inv ha
      obtain ⟨d', as', hd', rb, rfl⟩ := dataKind_inv hb
      obtain ⟨xs, rfl⟩ := ht d hd
      show wpAny _ _ (oneLt' false x y) _ _ _
      exact oneLt_alike (f := false) nofun ra rb (hal _ hd d' hd') nofun (room hd) hq
    · rw [kat_kind_eq, List.mapM_toArray, map_eq_pure_bind]
      refine wpAny_bind (wpAny_bind (firsts_ask vs fs hf (wpAny_pure ?_)))
      rw [if_neg (by rw [nall]; exact Bool.false_ne_true), if_pos h0]
      exact wpAny_pure hq
  · refine ⟨oneType', ?_, fun h2 E Q hq => ?_⟩
    · intro E x y a b Q ha hb hq
      obtain ⟨d, as, hd, ra, rfl⟩ := dataKind_inv ha
      obtain ⟨d', as', hd', rb, rfl⟩ := dataKind_inv hb
      obtain ⟨xs, rfl⟩ := ht d hd
      obtain ⟨ys, rfl⟩ := ht d' hd'
      rw [keyLt'_oneType]
      exact oneLt_tuple ra rb (hal _ hd _ hd') (room hd) hq
    · have hT : ∀ v ∈ vs, Looks (model prog w) s.heap (typeOf v) (Value.type "tuple") := fun v hv => by
        obtain ⟨d, hd, as, r⟩ := e.left v hv
        obtain ⟨xs, rfl⟩ := ht d hd
        exact looks_reads r
      rw [kat_kind_eq, List.mapM_toArray, map_eq_pure_bind]
      refine wpAny_bind (wpAny_bind (firsts_ask vs fs hf (wpAny_pure ?_)))
      rw [if_neg (by rw [nall]; exact Bool.false_ne_true), if_neg h0]
      rw [oneTypeOnly'_eq, List.mapM_toArray, map_eq_pure_bind]
      refine wpAny_bind (wpAny_bind (wpAny_bind (kas_mapM (r := Value.type "tuple") _ (fun v hv Q' hq => (hT v hv).here hq) (wpAny_pure ?_))))
      obtain ⟨v₁, rest, rfl⟩ : ∃ v₁ rest, vs = v₁ :: rest := by
        match vs, h2 with
        | v₁ :: rest, _ => exact ⟨v₁, rest, rfl⟩
      have hall : ((List.map (fun _ => Value.type "tuple") (v₁ :: rest)).toArray.all fun x => x == Value.type "tuple") = true := by
        simp only [List.all_toArray, List.all_map, List.all_eq_true]
        intro _ _
        rfl
      have h00 : (List.map (fun _ => Value.type "tuple") (v₁ :: rest)).toArray[0]? = some (Value.type "tuple") := by simp
      rw [h00]
      simp only [hall, if_true]
      exact wpAny_pure (wpAny_pure hq)
/-- what can be sorted: the kit's, and tuples of any length -/
def SortableT (ds : List PyData) : Prop := Sortable ds ∨ ∀ d, d ∈ ds → ∃ xs, d = .tuple xs
theorem sorts_at {vs : List Value} {ds : List PyData} (e : EachIs (fun v d => ∃ as, Reads s.heap v d as) vs ds) (hal : AllAlike ds) (hk : SortableT ds) (hu : ∀ d, d ∈ ds → A.units + d.depth < cLine) : SortsAt prog w A s (dataKind s.heap ds) vs :=
  hk.elim (fun h => SortsAt.data e hal h hu) fun h => tuples_sortable e hal h hu
theorem sorted_dataT {β : Type} {vs : List Value} {bs : List β} {enc : β → PyData} {R : Value → β → Prop} {l : Addr} {Q : Value → Shared → Prop} (hl : s.heap.IsList l vs.toArray) (e : EachIs R vs bs) (er : EachIs (fun v b => ∃ as, Reads s.heap v (enc b) as) vs bs) (hal : AllAlike (bs.map enc)) (hk : SortableT (bs.map enc)) (hL : bs.length ≤ sizeLine)
    (hu : ∀ b, b ∈ bs → A.units + 2 + (enc b).depth < cLine) (h : ∀ out, out.length = bs.length → EachIs R out (bs.mergeSort (dataLe false enc)) → Q (.ref (s.heap.objs.size + 1)) { s with heap := sortedAll s.heap vs (List.toArray out) }) :
    wpAny (model prog w) A (call (.builtin "sorted") [.ref l]) Q E s := by
  have er' : EachIs (fun v b => ∃ as, Reads (sortingHeap (copyHeap s.heap vs) (s.heap.objs.size + 1) vs) v (enc b) as) vs bs := er.mono fun _ _ ⟨as, r⟩ => ⟨as, PyProof.Rows.Reads.keeps (fun _ _ => sorting_copy_old) r⟩
  exact sorted_vals hl (sorts_at (s := { s with heap := sortingHeap (copyHeap s.heap vs) (s.heap.objs.size + 1) vs }) (each_map (R := fun v d => ∃ as, Reads (sortingHeap (copyHeap s.heap vs) (s.heap.objs.size + 1) vs) v d as) enc er') hal hk (bound_map hu)) (by rw [e.length]; exact hL)
    (h _ (by rw [sortVals_length false rfl]; exact e.length) (sortVals_data false e er' hal))
end
end MW
namespace MW
open PySem PySem.Spec PyProof.Rows L2
variable {gq : Bool}
section
variable {prog : Program} {w : World} {A : Around} {E : Value → Shared → Prop} {s : Shared}
theorem collect_tup {l : Addr} {vs : List Value} {Q : List Value → Shared → Prop} (hl : s.heap.IsTuple l vs.toArray)
    (h : Q vs { s with heap := (s.heap.push (PyProof.Rows.seqObj "list" #[] 0)).update s.heap.objs.size (Obj.mapSeq (· ++ vs.toArray)) }) (hsz : vs.length ≤ sizeLine) :
    wpAny (model prog w) A (collect (.ref l)) Q E s := by
  obtain ⟨o, ho, hc, n, hd⟩ := id hl
  unfold collect
  refine wpAny_bind (wpAny_runValue (codeAny_builtin entry_proto_collect' ?_))
  show wpAny _ _ (do again (.builtin "list.__iadd__" ⟨[← newList [], .ref l], []⟩)) _ _ s
  refine wpAny_bind (wpAny_newList (wpAny_pure ⟨Code.quiet_builtin _ (by decide +kernel), codeAny_builtin entry_list_iadd' ?_⟩))
  show wpAny _ _ (Builtin.List.listExtendWith (.ref s.heap.objs.size) (.ref l) (.ref s.heap.objs.size)) _ _ { s with heap := s.heap.push (PyProof.Rows.seqObj "list" #[] 0) }
  unfold Builtin.List.listExtendWith
  have ho' : (s.heap.push (PyProof.Rows.seqObj "list" #[] 0)).get? l = some o := Heap.get?_push_of_some _ ho
  refine wpAny_bind (wpAny_typeOf (T := "tuple") ⟨o, ho', hc⟩ ?_)
  have ht : (Value.type "tuple" == Value.type "tuple") = true := by rfl
  rw [if_pos (by rw [ht]; simp)]
  refine wpAny_bind (listItems_at ho' hd ?_)
  refine wpAny_bind (listItems_at (xs := #[]) (n := 0) (Heap.get?_push_size _ rfl) rfl ?_)
  rw [if_neg (by simp)]
  refine wpAny_bind (listUpdate_at (xs := #[]) (n := 0) (Heap.get?_push_size _ rfl) rfl ?_ (Nat.zero_le _) (by show (#[] ++ vs.toArray).size ≤ sizeLine + 1; simp only [Array.size_append, List.size_toArray, List.length_nil]; omega))
  refine wpAny_pure ?_
  show wpAny (model prog w) A (do
      let o ← load s.heap.objs.size
      match o.data with
      | .seq xs _ => pure xs.toList
      | _ => unsupported "internal:collect") Q E { s with heap := (s.heap.push (PyProof.Rows.seqObj "list" #[] 0)).update s.heap.objs.size (Obj.mapSeq (· ++ vs.toArray)) }
  refine wpAny_bind (wpAny_load (get?_update_seq (Heap.get?_push_size _ rfl) _) ?_)
  show wpAny _ _ (pure ((#[] : Array Value) ++ vs.toArray).toList) Q E _
  rw [show ((#[] : Array Value) ++ vs.toArray).toList = vs by simp]
  exact wpAny_pure h
open PySem.W in
theorem sortedT_of_sort {l : Addr} {vs : List Value} {Q : Value → Shared → Prop} (hl : s.heap.IsTuple l vs.toArray) (hL : vs.length ≤ sizeLine)
    (body : ∀ E' : Value → Shared → Prop, wpAny (model prog w) A.in1.in1 (Builtin.«list.sort» ⟨[.ref (s.heap.objs.size + 1)], []⟩) (fun f s' => f = .done (.ret .none) ∧ Q (.ref (s.heap.objs.size + 1)) s') E' { s with heap := copyHeap s.heap vs }) :
    wpAny (model prog w) A (call (.builtin "sorted") [.ref l]) Q E s := by
  refine call_function_entry_kw kind_sorted plain_sorted entry_sorted (args_sorted1 _) ?_
  unfold Builtin.«sorted»
  refine wpAny_bind (m := checkCount "sorted" 1 1 _) (wpAny_pure ?_)
  refine wpAny_bind (collect_tup hl ?_ hL)
  refine wpAny_bind (wpAny_newList ?_ hL)
  have hsz : ((s.heap.push (seqObj "list" #[] 0)).update s.heap.objs.size (Obj.mapSeq (· ++ vs.toArray))).objs.size = s.heap.objs.size + 1 := by
    rw [Heap.size_update, size_push']
  show wpAny _ _ _ _ _ { s with heap := copyHeap s.heap vs }
  rw [hsz]
  refine wpAny_bind (wpAny_holding (wpAny_call_entry_kw slot_list_sort ⟨_, copyHeap_at s.heap vs, rfl⟩ entry_list_sort ?body (args_list_sort _)))
  case body =>
    show wpAny (model prog w) A.in1.in1 (Builtin.«list.sort» ⟨[.ref (s.heap.objs.size + 1)], []⟩) _ _ _
    refine wpAny_mono (body _) (fun f s' hf => ?_) fun _ _ e => e
    obtain ⟨rfl, hq⟩ := hf
    exact ⟨_, rfl, wpAny_pure ⟨_, rfl, hq⟩⟩
open PySem.W in
theorem sortedT_data {β : Type} {vs : List Value} {bs : List β} {enc : β → PyData} {R : Value → β → Prop} {l : Addr} {Q : Value → Shared → Prop} (hl : s.heap.IsTuple l vs.toArray) (e : EachIs R vs bs) (er : EachIs (fun v b => ∃ as, Reads s.heap v (enc b) as) vs bs) (hal : AllAlike (bs.map enc)) (hk : SortableT (bs.map enc)) (hL : bs.length ≤ sizeLine)
    (hu : ∀ b, b ∈ bs → A.units + 2 + (enc b).depth < cLine) (h : ∀ out, out.length = bs.length → EachIs R out (bs.mergeSort (dataLe false enc)) → Q (.ref (s.heap.objs.size + 1)) { s with heap := sortedAll s.heap vs (List.toArray out) }) :
    wpAny (model prog w) A (call (.builtin "sorted") [.ref l]) Q E s := by
  have er' : EachIs (fun v b => ∃ as, Reads (sortingHeap (copyHeap s.heap vs) (s.heap.objs.size + 1) vs) v (enc b) as) vs bs := er.mono fun _ _ ⟨as, r⟩ => ⟨as, PyProof.Rows.Reads.keeps (fun _ _ => sorting_copy_old) r⟩
  have S : SortsAt prog w A.in1.in1 { s with heap := sortingHeap (copyHeap s.heap vs) (s.heap.objs.size + 1) vs } (dataKind (sortingHeap (copyHeap s.heap vs) (s.heap.objs.size + 1) vs) (bs.map enc)) vs := sorts_at (s := { s with heap := sortingHeap (copyHeap s.heap vs) (s.heap.objs.size + 1) vs }) (each_map (R := fun v d => ∃ as, Reads (sortingHeap (copyHeap s.heap vs) (s.heap.objs.size + 1) vs) v d as) enc er') hal hk (bound_map hu)
  refine sortedT_of_sort hl (by rw [e.length]; exact hL) fun _ => list_sort_vals (s := { s with heap := copyHeap s.heap vs }) (copyHeap_at s.heap vs) S (by rw [e.length]; exact hL) ⟨rfl, ?_⟩
  exact h _ (by rw [sortVals_length false rfl]; exact e.length) (sortVals_data false e er' hal)
end
def alikeB (ds : List D) : Bool := ds.all fun d => ds.all fun e => PySem.W.alike d e
def sortableB (ds : List D) : Bool := ds.all (fun d => match d with | .tuple _ => true | _ => false) || ds.all (fun d => match d with | .none => false | .tuple _ => false | _ => true)
/-- the order of data -/
def leD : D → D → Bool := fun a b => PySem.W.dataLe false (fun d : D => d) a b
def gSortL (ds : List D) : Option (List D) := if ds.all SeqAt.shaped = true ∧ alikeB ds = true ∧ sortableB ds = true then some (ds.mergeSort leD) else none
def gSorted : List D → Option (List D)
  | [.list ds] => gSortL ds
  | [.tuple ds] => gSortL ds
  | _ => none
theorem alikeB_ok {ds : List D} (h : alikeB ds = true) : PySem.W.AllAlike ds := fun d hd e he => List.all_eq_true.mp (List.all_eq_true.mp h d hd) e he
theorem sortableB_ok {ds : List D} (h : sortableB ds = true) : SortableT ds := by
  unfold sortableB at h
  rcases Bool.or_eq_true _ _ ▸ h with h | h
  · refine .inr fun d hd => ?_
    have := List.all_eq_true.mp h d hd
    split at this
    · exact ⟨_, rfl⟩
    · cases this
  · refine .inl (.inr fun d hd => ?_)
    have := List.all_eq_true.mp h d hd
    refine ⟨fun z => ?_, fun xs z => ?_⟩
    · subst z; cases this
    · subst z; cases this
theorem shaped_depth {d : D} (h : SeqAt.shaped d = true) : d.depth ≤ 64 := by
  unfold SeqAt.shaped at h
  simp only [Bool.and_eq_true, decide_eq_true_eq] at h
  exact h.2
section
variable {X : Cx}
/-- what sorted makes of items -/
theorem sort_pairs {K : Fg} {F : Hp} {xs : List V} {ds : List D} (r : RpL K F xs ds) : ∃ zs : List (V × D), zs.map Prod.fst = xs ∧ zs.map Prod.snd = ds ∧ (∀ z ∈ zs, Rp K F z.1 z.2) := by
  refine ⟨xs.zip ds, List.map_fst_zip (by rw [r.len]; exact Nat.le_refl _), List.map_snd_zip (by rw [r.len]; exact Nat.le_refl _), fun z hz => ?_⟩
  obtain ⟨i, hi⟩ := List.mem_iff_getElem?.mp hz
  rw [List.getElem?_zip_eq_some] at hi
  obtain ⟨v, e, q⟩ := r.get hi.2
  rw [hi.1] at e
  cases e
  exact q
theorem pairs_rp {K : Fg} {F : Hp} : ∀ {zs : List (V × D)}, (∀ z ∈ zs, Rp K F z.1 z.2) → RpL K F (zs.map Prod.fst) (zs.map Prod.snd)
  | [], _ => .nil
  | z :: zs, h => .cons (h z List.mem_cons_self) (pairs_rp fun y hy => h y (List.mem_cons_of_mem _ hy))
def rSortD (K : Fg) (U : Nat) : List V → Hp → VK → Prop := fun vs H Q => ∃ (a : Addr) (zs : List (V × D)), vs = [.ref a] ∧ (SqL K H a (zs.map Prod.fst) ∨ SqT K H a (zs.map Prod.fst)) ∧ (∀ z ∈ zs, Dp K H z.1 z.2 ∧ U + 2 + z.2.depth < cLine) ∧ PySem.W.AllAlike (zs.map Prod.snd) ∧ SortableT (zs.map Prod.snd) ∧
  ∀ p, H p = none → Q (.ref p) (upd H p (.lst ((zs.mergeSort (fun a b => leD a.2 b.2)).map Prod.fst)))
theorem each_of_vals {zs : List (V × D)} : ∀ {us : List Value}, Vals (zs.map Prod.fst) us → PySem.W.EachIs (fun u z => RelV z.1 u) us zs := by
  induction zs with
  | nil => intro us h; cases h; exact .nil
  | cons z zs ih =>
    intro us h
    cases h with
    | cons r t => exact .cons r (ih t)
theorem vals_of_each : ∀ {zs : List (V × D)} {us : List Value}, PySem.W.EachIs (fun u z => RelV z.1 u) us zs → Vals (zs.map Prod.fst) us
  | _, _, .nil => .nil
  | _, _, .cons r t => .cons r (vals_of_each t)
theorem each_reads {pins : List (Addr × Obj)} {σ : Sts} {H : Hp} {s : Shared} (I : Inv X pins σ H s) : ∀ {zs : List (V × D)} {us : List Value}, Vals (zs.map Prod.fst) us → (∀ z ∈ zs, Dp X.K H z.1 z.2) → PySem.W.EachIs (fun u z => ∃ as, Reads s.heap u z.2 as) us zs
  | [], _, h, _ => by cases h; exact .nil
  | z :: zs, _, h, k => by
    cases h with
    | cons r t => exact .cons (Dp.reads I _ _ _ (k z List.mem_cons_self) r) (each_reads I t fun y hy => k y (List.mem_cons_of_mem _ hy))
theorem cr_sortD : CallR X (.builtin "sorted") (rSortD X.K X.A.units) := by
  intro pins s σ H vs us Q I r h
  obtain ⟨a, zs, rfl, hs, hz, hal, hk, q⟩ := h
  rw [Vals.ref1 r]
  have fin : ∀ (its : List Value), Vals (zs.map Prod.fst) its → ∀ out : List Value, out.length = zs.length → PySem.W.EachIs (fun u z => RelV z.1 u) out (zs.mergeSort (PySem.W.dataLe false fun z : V × D => z.2)) → EP X pins σ Q (.ref (s.heap.objs.size + 1)) { s with heap := PyProof.Rows.sortedAll s.heap its (List.toArray out) } := fun its rv out hl eo => by
    obtain ⟨c, hc⟩ := PyProof.Rows.sortedAll_at s.heap its out.toArray
    have hp : H (s.heap.objs.size + 1) = none := I.hok.fresh (Nat.le_succ _)
    have hl2 : ((zs.mergeSort (fun a b => leD a.2 b.2)).map Prod.fst).length ≤ sizeLine := by
      rw [List.length_map, List.length_mergeSort]
      have : zs.length = its.length := by rw [← rv.length, List.length_map]
      rcases hs with h | h
      · obtain ⟨_, rv', _, hz⟩ := I.list h
        rw [List.length_map] at hz; exact hz
      · obtain ⟨_, rv', _, hz⟩ := I.tuple h
        rw [List.length_map] at hz; exact hz
    refine ⟨.ref (s.heap.objs.size + 1), _, I.laid (t' := s.toks) (fun _ _ e => PyProof.Rows.sortedAll_old e) (Nat.le_succ _) (show ObjOk X.prog X.w _ _ _ (.lst ((zs.mergeSort (fun a b => leD a.2 b.2)).map Prod.fst)) from ⟨hl2, out, c, vals_of_each eo, hc⟩), rfl, q _ hp⟩
  have sz : ∀ (its : List Value), Vals (zs.map Prod.fst) its → its.length = zs.length := fun its rv => by rw [← rv.length, List.length_map]
  rcases hs with h | h
  · obtain ⟨its, rv, p, hz'⟩ := I.list h
    refine sorted_dataT (R := fun u z => RelV z.1 u) (enc := fun z : V × D => z.2) p.isList (each_of_vals rv) (each_reads I rv fun z hz1 => (hz z hz1).1) hal hk (by rw [List.length_map] at hz'; exact hz') (fun z hz1 => (hz z hz1).2) (fin its rv)
  · obtain ⟨its, rv, p, hz'⟩ := I.tuple h
    refine sortedT_data (R := fun u z => RelV z.1 u) (enc := fun z : V × D => z.2) p (each_of_vals rv) (each_reads I rv fun z hz1 => (hz z hz1).1) hal hk (by rw [List.length_map] at hz'; exact hz') (fun z hz1 => (hz z hz1).2) (fin its rv)
theorem cl_sorted (hu : X.A.units + 80 < cLine) : CallL X (rSortD X.K X.A.units) gSorted := by
  intro S B F H σ ρ Q xs ds z I r hz k
  have main : ∀ (x : V) (es : List D) (p : Addr) (ys : List V), gSortL es = some z → RpL X.K F ys es → (SqL X.K H p ys ∨ SqT X.K H p ys) → rSortD X.K X.A.units [.ref p] H Q := fun x es p ys hz r1 h1 => by
    unfold gSortL at hz
    split at hz
    · rename_i hc
      cases hz
      obtain ⟨zs, e1, e2, hp⟩ := sort_pairs r1
      refine ⟨p, zs, rfl, by rw [e1]; exact h1, fun y hy => ?_, by rw [e2]; exact alikeB_ok hc.2.1, by rw [e2]; exact sortableB_ok hc.2.2, fun q hq => ?_⟩
      · have hs : SeqAt.shaped y.2 = true := List.all_eq_true.mp hc.1 y.2 (by rw [← e2]; exact List.mem_map.mpr ⟨y, hy, rfl⟩)
        have := shaped_depth hs
        exact ⟨((hp y hy).up I.same).dp (shaped_lay hs), by omega⟩
      · refine LKo.mk k I ?_ hq
        have hm : (zs.mergeSort (fun a b => leD a.2 b.2)).map Prod.snd = es.mergeSort leD := by
          rw [← e2]
          exact List.map_mergeSort fun _ _ _ _ => rfl
        rw [← hm]
        exact pairs_rp fun y hy => hp y (List.mem_mergeSort.mp hy)
    · cases hz
  unfold gSorted at hz
  split at hz
  · obtain ⟨x, rfl, rx⟩ := seen1 r
    obtain ⟨p, ys, rfl, h1, r1⟩ := rx.lst I.same
    exact main (.ref p) _ p ys hz r1 (.inl (.inl h1))
  · obtain ⟨x, rfl, rx⟩ := seen1 r
    obtain ⟨p, ys, rfl, h1, r1⟩ := rx.tup I.same
    exact main (.ref p) _ p ys hz r1 (.inr h1)
  · cases hz
variable {W : WX} {S : Sg} {a b e : Expr} {es : List Expr} {p pos : Pos} {ms : Ev → Out (List D)} {ma mb : Ev → Out D}
theorem ml_sorted (hu : X.A.units + 80 < cLine) (hg : Gl X "sorted") (hm : X.mg "sorted" = none) (ha : MA X W S [e] ms) (hv : bootBuiltins "sorted" = some (.builtin "sorted") := by decide +kernel) (he : starEach [e] X.env = (false, eval e X.env) :: starEach [] X.env := by rfl) (hpl : (backTo pos (starEach [] X.env)).any (·.1) = false := by rfl) : ML X W S (.Call (.Name "sorted" p) [e] [] pos) (mCallL gSorted ms) :=
  ml_callV (cl_sorted hu) ha fun t pt => pe_callB cr_sortD hg hm hv pt (by decide) (by decide) he hpl
theorem ml_sortedO (i : Nat) {x : Str} {p' : Pos} (k : knd S i = 1) (hvar : PE X (.Name x p') (tVar i)) (hu : X.A.units + 80 < cLine) (hg : Gl X "sorted") (hm : X.mg "sorted" = none) (hv : bootBuiltins "sorted" = some (.builtin "sorted") := by decide +kernel) (he : starEach [.Name x p'] X.env = (false, eval (.Name x p') X.env) :: starEach [] X.env := by rfl) (hpl : (backTo pos (starEach [] X.env)).any (·.1) = false := by rfl) : ML X W S (.Call (.Name "sorted" p) [.Name x p'] [] pos) (mCallOL gSorted i) :=
  ml_callO i (cl_sorted hu) k (fun t pt => pe_callB cr_sortD hg hm hv pt (by decide) (by decide) he hpl) hvar
def mBinL (g : D → D → Option (List D)) (ma mb : Ev → Out D) : Ev → Out (List D) := fun ρ => (ma ρ).bind fun d ρ1 => (mb ρ1).bind fun e ρ2 => Out.of (g d e) ρ2
def lMul : D → D → Option (List D)
  | .list xs, .int k => if k ≤ 100000 ∧ -100000 ≤ k ∧ xs.length ≤ 100 then some (List.replicate k.toNat xs).flatten else none
  | _, _ => none
theorem ml_mul (ha : ME X W S a ma) (hb : ME X W S b mb) : ML X W S (.BinOp a .Mult b pos) (mBinL lMul ma mb) := by
  obtain ⟨ta, pa, qa⟩ := ha.ex
  obtain ⟨tb, pb, qb⟩ := hb.ex
  have hsz := sizeLine_eq
  refine ⟨_, pe_op op_repR pa pb, fun B F H σ ρ Q I h => ?_⟩
  refine qa B F H σ ρ _ I (h.bind.mono (fun d ρ1 h1 F1 H1 x I1 s1 r1 => ?_) fun _ _ z => z)
  refine qb B F1 H1 σ ρ1 _ I1 (h1.bind.mono (fun e ρ2 h2 F2 H2 y I2 s2 r2 => ?_) fun _ _ z => XKo.up s1 z)
  obtain ⟨z, hz, k⟩ := sat_of h2
  unfold lMul at hz
  split at hz
  · split at hz
    · cases hz
      cases r1 with
      | lst g1 q1 =>
        cases r2
        rename_i hj
        refine ⟨_, _, _, rfl, rfl, rd_same (s2.trans I2.same) g1, by omega, by omega, ?_, fun p hp => ?_⟩
        · have l1 := q1.len
          exact Nat.le_trans (Nat.mul_le_mul (show _ ≤ 100 by omega) (show _ ≤ 100000 by omega)) (by rw [hsz]; decide)
        · exact LKo.mk (fun F' H' p' xs' I' s' => k F' H' p' xs' I' ((s1.trans s2).trans s')) I2 ((q1.up s2).rep _) hp
    · cases hz
  · cases hz
/-- list(range(..)) -/
def mListRg (ma : Ev → Out D) : Ev → Out (List D) := fun ρ => (ma ρ).bind fun d ρ1 => match d with
  | .int j => if -16777216 ≤ j ∧ j ≤ 16777216 then .ok (rangeD 0 j.toNat) ρ1 else .bad
  | _ => .bad
theorem rgV_rp {K : Fg} {F : Hp} (a b : Int) : RpL K F (rgV a b) (rangeD a (b - a).toNat) := by
  unfold rgV rangeD
  generalize List.range (b - a).toNat = l
  induction l with
  | nil => exact .nil
  | cons x l ih => exact .cons (.int _) ih
theorem ml_listRg {p2 pos2 : Pos} (hc : X.calm = true) (hg : Gl X "list") (hm : X.mg "list" = none) (hg2 : Gl X "range") (hm2 : X.mg "range" = none) (ha : ME X W S a ma) (na : starEach [a] X.env = (false, eval a X.env) :: starEach [] X.env := by rfl)
    (na2 : starEach [Expr.Call (.Name "range" p2) [a] [] pos2] X.env = (false, eval (Expr.Call (.Name "range" p2) [a] [] pos2) X.env) :: starEach [] X.env := by rfl) : ML X W S (.Call (.Name "list" p) [.Call (.Name "range" p2) [a] [] pos2] [] pos) (mListRg ma) := by
  obtain ⟨t, pt, q⟩ := ha.ex
  refine ⟨_, pe_listRg hc hg hm (prg_1 hg2 hm2 pt na) na2, fun B F H σ ρ Q I h => ?_⟩
  refine q B F H σ ρ _ I (h.bind.mono (fun d ρ1 h1 F1 H1 x I1 s1 r1 => ?_) fun _ _ z => z)
  split at h1
  · rename_i j
    split at h1
    · cases r1
      refine ⟨j, rfl, ⟨by omega, by omega, by omega, by omega, by omega⟩, fun q hq => ?_⟩
      refine LKo.mk (fun F' H' p' xs' I' s' => h1 F' H' p' xs' I' (s1.trans s')) I1 ?_ hq
      have := rgV_rp (K := X.K) (F := F1) 0 j
      rwa [Int.sub_zero] at this
    · exact h1.elim
  · exact h1.elim
theorem pmk_own0 {C : Addr} {bmB : List Value} {B newId initId : String} {x : Str} {p pos : Pos} (F : ExcBaseFacts B newId initId bmB) (q : PySem.W.excIn X.K C bmB newId = true) (gC : X.mg x = some (.ref C)) (kC : PySem.W.keepIn X.K (.ref C) = true) (r : Raises X (.ref C)) (hg : Gl X x)
    (hdb : (x == ("__debug__" : Str)) = false := by decide) : PMk X (.Call (.Name x p) [] [] pos) (fun _ H Q => Q (.ref C) none H) := by
  intro pins s σ H Q I h
  refine wpAny_Call_Name_kw (ld_glob I hg gC ?_ hdb)
  refine PySem.W.callWith_K0 I.kIn kC ?_
  show wpAny _ _ (call (.ref C) []) _ _ _
  obtain ⟨bm, N, nm, qn, bs, hdct, sn, sub, ab, col, dd, k0, k1, k2, k3, k5, mN, hC, hN, hni, T⟩ := exc_obj I.kIn q
  refine wpAny_call_exc_subT F T hC hN hni (fun h' e hm => ?_) (by show 0 ≤ sizeLine; omega)
  exact mk_of I hm r h (I.hok.gone hm.new)
theorem ms_raise {C : Addr} {bmB : List Value} {B newId initId : String} {x : Str} {p pos pos' : Pos} (hc : X.calm = true) (tk : Takes X W) (F : ExcBaseFacts B newId initId bmB) (q : PySem.W.excIn X.K C bmB newId = true) (gC : X.mg x = some (.ref C)) (kC : PySem.W.keepIn X.K (.ref C) = true) (r : Raises X (.ref C)) (hg : Gl X x)
    (hdb : (x == ("__debug__" : Str)) = false := by decide) : MS X W S (.Raise (some (.Call (.Name x p) [] [] pos)) none pos') (fun ρ => .err x ρ) :=
  ⟨_, ps_raise hc tk (pmk_own0 F q gC kC r hg hdb), fun B F H σ ρ D I h => h F H σ C I (Same.refl _) gC⟩
end
def spML (K : Fg) (mg : Str → Option Value) (os : List Bool) (m : List D → Out (List D)) : Sp := fun vs H Q E => ∃ B F ds, vs.length = os.length ∧ SInv K (sgOf os) B (vs.map some) F H (ds.map some) ∧
  Sat (m ds) (fun d zs => ∀ F' H' p xs, Back K (sgOf os) B vs F' H' zs → Same F F' → F' p = none → H' p = some (.lst xs) → RpL K F' xs d → B.H p = none → Q (.ref p) H') (fun c zs => ∀ F' H' C, Back K (sgOf os) B vs F' H' zs → Same F F' → mg c = some (.ref C) → E (.ref C) none H')
/-- .. by one return; the lent lists are not touched -/
def mDefL (n : Nat) (me : Ev → Out (List D)) : List D → Out (List D) := fun ds => match me (ds.map some ++ List.replicate (n - ds.length) none) with
  | .ok d ρ => .ok d (List.replicate ds.length none)
  | .err c ρ => .err c (List.replicate ds.length none)
  | .bad => .bad
section
variable {P : Program} {w : World} {K : PySem.W.Frag} {mg : Str → Option Value} {base : Heap}
theorem def_okL {x qual : Str} {st : Stmt} {f : Addr} {fd : FuncData} {N ps : List Str} {k : Nat} (S : Sg) (os : List Bool) {e : Expr} {rp : Pos} {me : Ev → Out (List D)} (Fn : L2.Fun K x qual st f fd) (Sc : FnScope N ps (defScope st)) (hb : defBody st = [.Return (some e) rp]) (hnp : ps.length = S.np) (hos : os.length = S.np) (hno : os.all (fun b => !b) = true)
    (hks : (List.range S.np).all (fun i => knd S i == if os.getD i false = true then 1 else 0) = true)
    (hbody : ∀ (cdv : Value) (A : Around) (outer : List Env) (s : Shared) (H : Hp) (E : XK), RoomQ gq k (A.deeper (envOfC qual (defScope st) s.heap.objs.size f cdv)) →
      ML (cxOf (L2.CX P w) P w K mg base N qual (defScope st) f cdv A outer s H E) (fun c d _ H => E c d H) S e me) (hTn : S.T = [] := by rfl) :
    FnQ gq P w K mg base (k + 1) f fd ps (spML K mg os (mDefL N.length me)) := by
  refine FnQ.of Fn Sc (fun vs H Q E h => ?_) (fun cdv A outer s H vs Q E hr h => ?_)
  · obtain ⟨_, _, _, hl, _⟩ := h
    rw [hl, hnp, hos]
  · obtain ⟨B, F, ds, hl, I, hs⟩ := h
    obtain ⟨t, p, q⟩ := (hbody cdv A outer s H E hr).ex
    rw [hb]
    refine ⟨_, pss_one (ps_ret p), q B F H _ _ _ (start_sinv (N := N) hos hks (by omega) (nil_ts I hTn) I) ?_⟩
    have hd : ds.length = os.length := by
      have := I.len
      simp at this
      omega
    have nown : ∀ i, own (sgOf os) i = false := fun i => by
      rw [sgOf_own, List.getD_eq_getElem?_getD]
      cases e : os[i]? with
      | none => rfl
      | some b =>
        have := List.all_eq_true.mp hno b (List.mem_of_getElem? e)
        cases b <;> first | rfl | cases this
    have back : ∀ {F' H' : Hp} {σ' : Sts} {ρ' : Ev}, SInv K S B σ' F' H' ρ' → Back K (sgOf os) B vs F' H' (List.replicate ds.length none) := fun {F' H' σ' ρ'} J =>
      ⟨by rw [List.length_replicate, hd]; rfl, J.ext, J.same, fun i a k => by rw [nown i] at k; cases k⟩
    unfold mDefL at hs
    cases e1 : me (ds.map some ++ List.replicate (N.length - ds.length) none) with
    | bad => rw [e1] at hs; exact hs.elim
    | err c ρ' =>
      rw [e1] at hs
      exact fun F' H' C J s' hC => hs F' H' C (back J) s' hC
    | ok d ρ' =>
      rw [e1] at hs
      exact fun F' H' p xs J s' pF pH pr pB _ => hs F' H' p xs (back J) s' pF pH pr pB
end
def mCallDL (f : List D → Out (List D)) (ks : List (Option Nat)) (ms : Ev → Out (List D)) : Ev → Out (List D) := fun ρ => (ms ρ).bind fun ds ρ1 => (Out.of (resolve ρ1 ks ds) ρ1).bind fun as ρ1 => match f as with
  | .ok d os => .ok d (wback ks os ρ1)
  | .err c os => .err c (wback ks os ρ1)
  | .bad => .bad
section
variable {X : Cx} {W : WX} {S : Sg} {os : List Bool} {pos p : Pos} {e : Expr} {es : List Expr} {ks : List (Option Nat)} {ms : Ev → Out (List D)} {k : Nat} {f : Addr} {fd : FuncData} {ps : List Str} {x : Str} {m : List D → Out (List D)}
theorem ml_call (Fn : FnQ gq X.prog X.w X.K X.mg X.base k f fd ps (spML X.K X.mg os m)) (hr : RoomQ gq k X.A) (hg : Gl X x) (hm : X.mg x = some (.ref f)) (hk : PySem.W.keepIn X.K (.ref f) = true) (hb : Binds X.K fd ps []) (tk : Takes X W)
    (ha : MAc X W S (e :: es) ks ms) (h1 : os = ks.map Option.isSome) (h3 : ks.all (fun k => k.all (fun i => knd S i == 1)) = true) (h4 : (ks.filterMap id).Nodup) (hdb : (x == ("__debug__" : Str)) = false := by decide) (he : starEach (e :: es) X.env = (false, eval e X.env) :: starEach es X.env := by rfl) (hpl : (backTo pos (starEach es X.env)).any (·.1) = false := by rfl) :
    ML X W S (.Call (.Name x p) (e :: es) [] pos) (mCallDL m ks ms) := by
  obtain ⟨t, pt, q⟩ := ha.ex
  refine ⟨_, pe_callG Fn hr hg hm hk hb (fun σ => passAt tk σ) pt hdb he hpl, fun B F H σ ρ Q I h => ?_⟩
  refine q B F H σ ρ _ I ((Sat.bind h).mono (fun ds ρ1 h1' F1 H1 vs I1 s1 r1 => ?_) fun _ _ z => z)
  obtain ⟨as, e1, h5⟩ := sat_of (Sat.bind h1')
  obtain ⟨hl, J⟩ := call_start I1 r1 e1 h1 h3 h4
  refine ⟨_, F1, as, hl, J, ?_⟩
  cases e2 : m as with
  | bad => rw [e2] at h5; exact h5.elim
  | ok d os =>
    rw [e2] at h5
    refine fun F' H' p xs b s' pF pH pr pB => h5 F' H' p xs (call_back I1 r1 e1 h1 h3 h4 b) (s1.trans s') pF pH pr (I1.ext.st p pB) fun i c hh z => ?_
    subst z
    exact I1.heldSome ((call_back2 I1 r1 e1 h1 h3 h4 b).2 i c hh) pB
  | err c os =>
    rw [e2] at h5
    exact fun F' H' C b s' hC => h5 F' H' C (call_back I1 r1 e1 h1 h3 h4 b) (s1.trans s') hC
end
end MW
namespace PySem
open AutoSeq1 (wpAny_loadPart')
set_option maxHeartbeats 1000000 in
theorem mw_enumerate_newT (l : Addr) (items : Array Value) (n : Nat) (dct : Option Addr) (sl : Array (Option Value)) :
    Meets (Builtin.«enumerate.__new__» ⟨[.type "enumerate", .ref l], []⟩) (fun _ R s => s.heap.get? l = some { cls := .type "tuple", dict := dct, data := .seq items n, slots := sl } ∧
      R (.ok (.ret (.ref (s.heap.push { cls := .type "tuple_iterator", data := .fields #[.ref l, .int 0 0] }).objs.size)))
        { s with heap := (s.heap.push { cls := .type "tuple_iterator", data := .fields #[.ref l, .int 0 0] }).push { cls := .type "enumerate", data := .fields #[.none, .bool false, .ref s.heap.objs.size, rawInt 0, .none, .none] } }) :=
  .of_wp fun prog w A R s h => by
    obtain ⟨hp, g, d, tk, os⟩ := s; obtain ⟨hl, h⟩ := h
    have hsub := sub_enumerate
    have hL : Heap.IsTuple (Shared.heap ⟨hp, g, d, tk, os⟩) l items := ⟨_, hl, rfl, n, rfl⟩
    wp_walk using wpAny_loadPart' hl
    refine wpAny_stack_any fun st => wpAny_pure ?_
    split
    · rename_i c _ _ _ _ _
      cases (c == Value.type "enumerate")
      · wp_walk using wpAny_loadPart' hl, wpAny_pyIter_tuple hL
        exact ⟨_, rfl, h⟩
      · wp_walk using wpAny_loadPart' hl, wpAny_pyIter_tuple hL
        exact ⟨_, rfl, h⟩
    · wp_walk using wpAny_loadPart' hl, wpAny_pyIter_tuple hL
      exact ⟨_, rfl, h⟩
theorem mw_call_enumerate_tup {prog : Program} {w : World} {A : Around} {E : Value → Shared → Prop} {s : Shared} {l : Addr} {items : Array Value} {Q : Value → Shared → Prop} (hL : s.heap.IsTuple l items)
    (h : ∀ h', IsEnum h' (s.heap.objs.size + 1) s.heap.objs.size 0 .none → h'.IsTupleIter s.heap.objs.size l 0 → h'.objs.size = s.heap.objs.size + 2 →
      (∀ b o, s.heap.get? b = some o → h'.get? b = some o) → Q (.ref (s.heap.objs.size + 1)) { s with heap := h' }) :
    wpAny (model prog w) A (call (.type "enumerate") [.ref l]) Q E s := by
  obtain ⟨⟨c, dct, dt, sl⟩, hl, hc, n, hd⟩ := hL
  replace hc : c = .type "tuple" := hc
  replace hd : dt = .seq items n := hd
  subst hc hd
  refine callType_new F.called_enumerate (by decide) (F.typeCall_enumerate_1 _) (F.newCall_enumerate_1 _) (fun obj => F.args_object_init_2 obj _) F.entry_enumerate_new
    (mw_enumerate_newT l items n dct sl) ⟨hl, ?_⟩
  have hz : (s.heap.push { cls := .type "tuple_iterator", data := .fields #[.ref l, .int 0 0] }).objs.size = s.heap.objs.size + 1 := Heap.size_push ..
  show _ ∧ _
  rw [hz]
  have he : IsEnum ((s.heap.push { cls := .type "tuple_iterator", data := .fields #[.ref l, .int 0 0] }).push
      { cls := .type "enumerate", data := .fields #[.none, .bool false, .ref s.heap.objs.size, rawInt 0, .none, .none] }) (s.heap.objs.size + 1) s.heap.objs.size 0 .none := by
    have := Heap.get?_push_size (s.heap.push { cls := .type "tuple_iterator", data := .fields #[.ref l, .int 0 0] })
      (o := { cls := .type "enumerate", data := .fields #[.none, .bool false, .ref s.heap.objs.size, rawInt 0, .none, .none] }) rfl
    rw [hz] at this; exact this
  refine ⟨⟨_, he, rfl⟩, h _ he ⟨_, Heap.get?_push_of_some _ (Heap.get?_push_size _ rfl), rfl, rfl⟩ (by rw [Heap.size_push, hz]) fun b o x => Heap.get?_push_of_some _ (Heap.get?_push_of_some _ x)⟩
end PySem
namespace MW
open PySem PySem.Spec PyProof.Rows L2
variable {gq : Bool}
theorem hu65 {k : Nat} {A : Around} (hr : RoomQ gq k A) : A.units + 65 < cLine := by have := hr.un; omega
theorem hu80 {k : Nat} {A : Around} (hr : RoomQ gq k A) : A.units + 80 < cLine := by have := hr.un; omega
theorem isD_int : ∀ d : D, L2.kitB (tyD d) "int" = some (isD "int" d) := by intro d; cases d <;> (simp only [isD, tyD]; decide +kernel)
theorem isD_bool : ∀ d : D, L2.kitB (tyD d) "bool" = some (isD "bool" d) := by intro d; cases d <;> (simp only [isD, tyD]; decide +kernel)
theorem isD_tuple : ∀ d : D, L2.kitB (tyD d) "tuple" = some (isD "tuple" d) := by intro d; cases d <;> (simp only [isD, tyD]; decide +kernel)
def IteT (K : PySem.W.Frag) (a : Addr) : It :=
  ⟨fun i H => ∃ (xs : List V) (x : V), SqT K H a xs ∧ xs[i]? = some x, fun i H v H' => ∃ (T : Addr) (o : Obj) (x : V), v = .ref T ∧ H T = none ∧ o.dict = none ∧ H' = upd H T (.frz o (.tup [.int (i : Nat), x])) ∧ ∀ xs, SqT K H a xs → xs[i]? = some x, fun i H => ∃ xs : List V, SqT K H a xs ∧ xs.length = i⟩
theorem turn_enumT {P : Program} {w : World} {K : PySem.W.Frag} {elts : List Expr} {kk : Nat} {tpos : Pos} (a e it : Addr) :
    Turn P w K (.Tuple elts kk tpos) (IteT K a) [e, it] e (fun i h => (∃ old, IsEnum h e it ((i : Nat) : Int) old) ∧ h.IsTupleIter it a i ∧ e ≠ it ∧ a ≠ e ∧ a ≠ it) where
  mem := by simp
  obj := fun i h st b hb => by
    obtain ⟨⟨old, he⟩, ⟨o, ho, hc, hd⟩, _⟩ := st
    have e' : b = e ∨ b = it := by simpa using hb
    rcases e' with z | z
    · rw [z]; exact ⟨_, he, fun v q => nomatch q⟩
    · rw [z]; exact ⟨o, ho, fun v q => by rw [hd] at q; cases q⟩
  keep := fun i h h' st k => let ⟨⟨old, he⟩, hi, hne, h1, h2⟩ := st; ⟨⟨old, k e (by simp) _ he⟩, hi.at fun o q => k it (by simp) o q, hne, h1, h2⟩
  item := by
    intro X hP hw hK hc i pins s σ H E I hf st hg
    subst hP hw hK
    obtain ⟨⟨old, he⟩, hit, hne, hae, hai⟩ := st
    obtain ⟨xs, x, hq, hx⟩ := hg
    obtain ⟨its, rv, p, hz⟩ := I.tuple hq
    obtain ⟨u, hu, ru⟩ := rv.get hx
    have hel : e < s.heap.objs.size := Heap.lt_size he
    have hil : it < s.heap.objs.size := by obtain ⟨_, q, _⟩ := hit; exact Heap.lt_size q
    have hlt : i < its.toArray.size := by
      have := (List.getElem?_eq_some_iff.mp hu).1
      simpa using this
    refine wpAny_pyNext_enum_itemD (Draws.tuple (A := X.A.in1) (I.ok.hd hc) it a hai its.toArray) he ⟨hit, p⟩ hlt hne (by simp [hne, hae.symm]) fun x' h' tk hx' ho hst' hT hsz hk => ?_
    have hx'' : x' = u := by
      have h2 : its[i]? = some x' := by simpa using hx'
      rw [hu] at h2; exact (Option.some.inj h2).symm
    subst hx''
    refine ⟨_, rfl, wpAny_letOwnedTupleGo_enum (s := { s with heap := h', toks := tk + 1 }) ho fun h'' he' sb => ?_⟩
    let ob : Obj := { cls := .type "tuple", data := .seq #[.int i tk, x'] }
    have hT2 : h''.get? s.heap.objs.size = some ob := (sb.2 _ (Nat.ne_of_gt hel)).trans hT
    have new : ObjOk X.prog X.w (upd H s.heap.objs.size (.frz ob (.tup [.int (i : Nat), x]))) h'' s.heap.objs.size (.frz ob (.tup [.int (i : Nat), x])) :=
      ⟨hT2, by show 2 ≤ sizeLine; decide, [.int i tk, x'], .cons ⟨_, rfl⟩ (.cons ru .nil), ⟨_, hT2, rfl, _, rfl⟩⟩
    have I1 : Inv X pins σ (upd H s.heap.objs.size (.frz ob (.tup [.int (i : Nat), x]))) { s with heap := h'', toks := tk + 1 } :=
      I.turnedNew (ch := [e, it]) (fun b ob hb q => (sb.2 b (fun z => hb (by simp [z]))).trans (hk b ob (fun z => hb (by simp [z])) (fun z => hb (by simp [z])) q)) hf (Nat.le_refl _) new
    refine ⟨.ref s.heap.objs.size, _, I1, rfl, ⟨_, ob, x, rfl, I.hok.fresh (Nat.le_refl _), rfl, rfl, fun ys hy => by rw [I.tuple_inj hy hq]; exact hx⟩, ⟨⟨x', ?_⟩, hst'.1.at fun o q => (sb.2 it (Ne.symm hne)).trans q, hne, hae, hai⟩, fun b hb => ?_⟩
    · have e1 : ((i + 1 : Nat) : Int) = (i : Int) + 1 := by omega
      rw [e1]; exact he'
    · have hb' : b < s.heap.objs.size := by
        have e' : b = e ∨ b = it := by simpa using hb
        rcases e' with z | z
        · rw [z]; exact hel
        · rw [z]; exact hil
      rw [upd_ne (Nat.ne_of_lt hb')]
      exact (hf b hb).1
  done := by
    intro X hP hw hK hc i pins s σ H E I hf st hg
    subst hP hw hK
    obtain ⟨⟨old, he⟩, hit, hne, hae, hai⟩ := st
    obtain ⟨xs, hq, hx⟩ := hg
    obtain ⟨its, rv, p, hz⟩ := I.tuple hq
    obtain ⟨f0, f1, f2, f3, f4, f5⟩ := hf it (by simp)
    have hl := rv.length
    have hi : i = its.toArray.size := by rw [List.size_toArray]; omega
    subst hi
    exact wpAny_pyNext_enum_endD (Draws.tuple (A := X.A.in1) (I.ok.hd hc) it a hai its.toArray) he ⟨hit, p⟩ fun h' eb => ⟨rfl, I.turned (t' := s.toks) (fun b o hb q => eb b o hb q) f0 f1 f3 f4 f5⟩
  self := fun A i s Q E st h => let ⟨⟨_, he⟩, _⟩ := st; wpAny_pyIter_enum he h
def iEnumT (K : PySem.W.Frag) (ta : TA) : TI := fun σ H R => ta σ H fun vs H1 => ∃ a xs, vs = [.ref a] ∧ SqT K H1 a xs ∧ R (IteT K a) H1
theorem pi_enumT {X : Cx} {e : Expr} {ta : TA} {p pos tpos : Pos} {elts : List Expr} {kk : Nat} (hg : Gl X "enumerate") (hm : X.mg "enumerate" = none) (ha : PA X [e] ta) (hs : starEach [e] X.env = [(false, eval e X.env)] := by rfl) :
    PI X (.Tuple elts kk tpos) (.Call (.Name "enumerate" p) [e] [] pos) (iEnumT X.K ta) := by
  refine ⟨fun pins s σ H R I h => ?_⟩
  refine Call_ (ld_blt I hg hm boot_enumerate (PyProof.Rows.callWith_type1 (thn (ha.run pos pins s σ H _ I h) fun us s1 ⟨vs, H1, I1, r1, q1⟩ => ?_) hs rfl))
  obtain ⟨a, xs, ex, hq, q⟩ := q1
  subst ex
  cases r1 with
  | cons r rr =>
    cases rr
    cases r
    obtain ⟨its, rv, p', hz⟩ := I1.tuple hq
    have hal : a < s1.heap.objs.size := by obtain ⟨_, z, _⟩ := p'; exact Heap.lt_size z
    refine mw_call_enumerate_tup p' fun h' he hit hsz hk => wpAny_pyIter_enum he ?_
    have I2 : Inv X pins σ H1 { s1 with heap := h' } := I1.kept (t' := s1.toks) hk
    refine ⟨s1.heap.objs.size + 1, [s1.heap.objs.size + 1, s1.heap.objs.size], _, _, H1, rfl, I2, turn_enumT a (s1.heap.objs.size + 1) s1.heap.objs.size, ⟨⟨.none, he⟩, hit, Nat.succ_ne_self _, Nat.ne_of_lt (Nat.lt_succ_of_lt hal), Nat.ne_of_lt hal⟩, fun b hb => ?_, q⟩
    have e' : b = s1.heap.objs.size + 1 ∨ b = s1.heap.objs.size := by simpa using hb
    have hle : s1.heap.objs.size ≤ b := by
      rcases e' with z | z
      · rw [z]; exact Nat.le_add_right _ _
      · rw [z]; exact Nat.le_refl _
    exact I1.fpOk hle (I1.hok.fresh hle)
def IteL (K : PySem.W.Frag) (a : Addr) : It :=
  ⟨fun i H => ∃ (xs : List V) (x : V), SqL K H a xs ∧ xs[i]? = some x, fun i H v H' => ∃ (T : Addr) (o : Obj) (x : V), v = .ref T ∧ H T = none ∧ o.dict = none ∧ H' = upd H T (.frz o (.tup [.int (i : Nat), x])) ∧ ∀ xs, SqL K H a xs → xs[i]? = some x, fun i H => ∃ xs : List V, SqL K H a xs ∧ xs.length = i⟩
theorem turn_enumL {P : Program} {w : World} {K : PySem.W.Frag} {elts : List Expr} {kk : Nat} {tpos : Pos} (a e it : Addr) :
    Turn P w K (.Tuple elts kk tpos) (IteL K a) [e, it] e (fun i h => (∃ old, IsEnum h e it ((i : Nat) : Int) old) ∧ h.IsListIter it a i ∧ e ≠ it ∧ a ≠ e ∧ a ≠ it) where
  mem := by simp
  obj := fun i h st b hb => by
    obtain ⟨⟨old, he⟩, ⟨o, ho, hc, hd⟩, _⟩ := st
    have e' : b = e ∨ b = it := by simpa using hb
    rcases e' with z | z
    · rw [z]; exact ⟨_, he, fun v q => nomatch q⟩
    · rw [z]; exact ⟨o, ho, fun v q => by rw [hd] at q; cases q⟩
  keep := fun i h h' st k => let ⟨⟨old, he⟩, hi, hne, h1, h2⟩ := st; ⟨⟨old, k e (by simp) _ he⟩, hi.at fun o q => k it (by simp) o q, hne, h1, h2⟩
  item := by
    intro X hP hw hK hc i pins s σ H E I hf st hg
    subst hP hw hK
    obtain ⟨⟨old, he⟩, hit, hne, hae, hai⟩ := st
    obtain ⟨xs, x, hq, hx⟩ := hg
    obtain ⟨its, rv, p, hz⟩ := I.list hq
    obtain ⟨u, hu, ru⟩ := rv.get hx
    have hel : e < s.heap.objs.size := Heap.lt_size he
    have hil : it < s.heap.objs.size := by obtain ⟨_, q, _⟩ := hit; exact Heap.lt_size q
    have hlt : i < its.toArray.size := by
      have := (List.getElem?_eq_some_iff.mp hu).1
      simpa using this
    refine wpAny_pyNext_enum_itemD (Draws.list (A := X.A.in1) (I.ok.hd hc) it a hai its.toArray) he ⟨hit, p.isList⟩ hlt hne (by simp [hne, hae.symm]) fun x' h' tk hx' ho hst' hT hsz hk => ?_
    have hx'' : x' = u := by
      have h2 : its[i]? = some x' := by simpa using hx'
      rw [hu] at h2; exact (Option.some.inj h2).symm
    subst hx''
    refine ⟨_, rfl, wpAny_letOwnedTupleGo_enum (s := { s with heap := h', toks := tk + 1 }) ho fun h'' he' sb => ?_⟩
    let ob : Obj := { cls := .type "tuple", data := .seq #[.int i tk, x'] }
    have hT2 : h''.get? s.heap.objs.size = some ob := (sb.2 _ (Nat.ne_of_gt hel)).trans hT
    have new : ObjOk X.prog X.w (upd H s.heap.objs.size (.frz ob (.tup [.int (i : Nat), x]))) h'' s.heap.objs.size (.frz ob (.tup [.int (i : Nat), x])) :=
      ⟨hT2, by show 2 ≤ sizeLine; decide, [.int i tk, x'], .cons ⟨_, rfl⟩ (.cons ru .nil), ⟨_, hT2, rfl, _, rfl⟩⟩
    have I1 : Inv X pins σ (upd H s.heap.objs.size (.frz ob (.tup [.int (i : Nat), x]))) { s with heap := h'', toks := tk + 1 } :=
      I.turnedNew (ch := [e, it]) (fun b ob hb q => (sb.2 b (fun z => hb (by simp [z]))).trans (hk b ob (fun z => hb (by simp [z])) (fun z => hb (by simp [z])) q)) hf (Nat.le_refl _) new
    refine ⟨.ref s.heap.objs.size, _, I1, rfl, ⟨_, ob, x, rfl, I.hok.fresh (Nat.le_refl _), rfl, rfl, fun ys hy => by rw [I.list_inj hy hq]; exact hx⟩, ⟨⟨x', ?_⟩, hst'.1.at fun o q => (sb.2 it (Ne.symm hne)).trans q, hne, hae, hai⟩, fun b hb => ?_⟩
    · have e1 : ((i + 1 : Nat) : Int) = (i : Int) + 1 := by omega
      rw [e1]; exact he'
    · have hb' : b < s.heap.objs.size := by
        have e' : b = e ∨ b = it := by simpa using hb
        rcases e' with z | z
        · rw [z]; exact hel
        · rw [z]; exact hil
      rw [upd_ne (Nat.ne_of_lt hb')]
      exact (hf b hb).1
  done := by
    intro X hP hw hK hc i pins s σ H E I hf st hg
    subst hP hw hK
    obtain ⟨⟨old, he⟩, hit, hne, hae, hai⟩ := st
    obtain ⟨xs, hq, hx⟩ := hg
    obtain ⟨its, rv, p, hz⟩ := I.list hq
    obtain ⟨f0, f1, f2, f3, f4, f5⟩ := hf it (by simp)
    have hl := rv.length
    have hi : i = its.toArray.size := by rw [List.size_toArray]; omega
    subst hi
    exact wpAny_pyNext_enum_endD (Draws.list (A := X.A.in1) (I.ok.hd hc) it a hai its.toArray) he ⟨hit, p.isList⟩ fun h' eb => ⟨rfl, I.turned (t' := s.toks) (fun b o hb q => eb b o hb q) f0 f1 f3 f4 f5⟩
  self := fun A i s Q E st h => let ⟨⟨_, he⟩, _⟩ := st; wpAny_pyIter_enum he h
def iEnumL (K : PySem.W.Frag) (ta : TA) : TI := fun σ H R => ta σ H fun vs H1 => ∃ a xs, vs = [.ref a] ∧ SqL K H1 a xs ∧ R (IteL K a) H1
theorem pi_enumL {X : Cx} {e : Expr} {ta : TA} {p pos tpos : Pos} {elts : List Expr} {kk : Nat} (hg : Gl X "enumerate") (hm : X.mg "enumerate" = none) (ha : PA X [e] ta) (hs : starEach [e] X.env = [(false, eval e X.env)] := by rfl) :
    PI X (.Tuple elts kk tpos) (.Call (.Name "enumerate" p) [e] [] pos) (iEnumL X.K ta) := by
  refine ⟨fun pins s σ H R I h => ?_⟩
  refine Call_ (ld_blt I hg hm boot_enumerate (PyProof.Rows.callWith_type1 (thn (ha.run pos pins s σ H _ I h) fun us s1 ⟨vs, H1, I1, r1, q1⟩ => ?_) hs rfl))
  obtain ⟨a, xs, ex, hq, q⟩ := q1
  subst ex
  cases r1 with
  | cons r rr =>
    cases rr
    cases r
    obtain ⟨its, rv, p', hz⟩ := I1.list hq
    have hal : a < s1.heap.objs.size := by obtain ⟨_, _, z, _⟩ := p'; exact Heap.lt_size z
    refine call_enumerate_list p'.isList fun h' he hit hsz hk => wpAny_pyIter_enum he ?_
    have I2 : Inv X pins σ H1 { s1 with heap := h' } := I1.kept (t' := s1.toks) hk
    refine ⟨s1.heap.objs.size + 1, [s1.heap.objs.size + 1, s1.heap.objs.size], _, _, H1, rfl, I2, turn_enumL a (s1.heap.objs.size + 1) s1.heap.objs.size, ⟨⟨.none, he⟩, hit, Nat.succ_ne_self _, Nat.ne_of_lt (Nat.lt_succ_of_lt hal), Nat.ne_of_lt hal⟩, fun b hb => ?_, q⟩
    have e' : b = s1.heap.objs.size + 1 ∨ b = s1.heap.objs.size := by simpa using hb
    have hle : s1.heap.objs.size ≤ b := by
      rcases e' with z | z
      · rw [z]; exact Nat.le_add_right _ _
      · rw [z]; exact Nat.le_refl _
    exact I1.fpOk hle (I1.hok.fresh hle)
def enumD (ds : List D) : List D := (List.range ds.length).zipWith (fun i d => .tuple [.int (i : Nat), d]) ds
theorem enumD_len (ds : List D) : (enumD ds).length = ds.length := by simp [enumD]
theorem enumD_get {ds : List D} {i : Nat} {d : D} (h : (enumD ds)[i]? = some d) : ∃ x, ds[i]? = some x ∧ d = .tuple [.int (i : Nat), x] := by
  unfold enumD at h
  rw [List.getElem?_zipWith] at h
  cases e : ds[i]? with
  | none => rw [e] at h; cases q : (List.range ds.length)[i]? <;> rw [q] at h <;> cases h
  | some x =>
    have hi : i < ds.length := (List.getElem?_eq_some_iff.mp e).1
    rw [e, List.getElem?_range hi] at h
    exact ⟨x, rfl, (Option.some.inj h).symm⟩
def mEnum (ms : Ev → Out (List D)) : Ev → Out (List D) := fun ρ => (ms ρ).bind fun ds ρ1 => match ds with
  | [.list xs] => .ok (enumD xs) ρ1
  | [.tuple xs] => .ok (enumD xs) ρ1
  | _ => .bad
theorem walkD_enum {K : Fg} {F : Hp} {a : Addr} {xs : List V} {ds : List D} (h : Rd F a (.lst xs)) (r : RpL K F xs ds) : WalkD K F (IteL K a) (enumD ds) := by
  refine ⟨fun i H hi s => ?_, fun H s => ⟨xs, .inl (rd_same s h), by rw [enumD_len, r.len]⟩, fun i H x H' d e s y => ?_⟩
  · rw [enumD_len, ← r.len] at hi
    exact ⟨xs, xs[i], .inl (rd_same s h), by simp [hi]⟩
  · obtain ⟨d', e1, rfl⟩ := enumD_get e
    obtain ⟨v, e2, q⟩ := r.get e1
    obtain ⟨T, o, x', rfl, hT, ho, rfl, hx⟩ := y
    have := (hx xs (.inl (rd_same s h))).symm.trans e2
    cases this
    exact .inr ⟨T, o, _, _, rfl, hT, ho, rfl, .cons (.int _) (.one q), rfl⟩
theorem walkD_enumT {K : Fg} {F : Hp} {a : Addr} {xs : List V} {ds : List D} (h : SqT K F a xs) (r : RpL K F xs ds) : WalkD K F (IteT K a) (enumD ds) := by
  refine ⟨fun i H hi s => ?_, fun H s => ⟨xs, sqT_same s h, by rw [enumD_len, r.len]⟩, fun i H x H' d e s y => ?_⟩
  · rw [enumD_len, ← r.len] at hi
    exact ⟨xs, xs[i], sqT_same s h, by simp [hi]⟩
  · obtain ⟨d', e1, rfl⟩ := enumD_get e
    obtain ⟨v, e2, q⟩ := r.get e1
    obtain ⟨T, o, x', rfl, hT, ho, rfl, hx⟩ := y
    have := (hx xs (sqT_same s h)).symm.trans e2
    cases this
    exact .inr ⟨T, o, _, _, rfl, hT, ho, rfl, .cons (.int _) (.one q), rfl⟩
theorem pa_len {X : Cx} {es : List Expr} {t : TA} (h : PA X es t) : PA X es (fun σ H Q => t σ H fun vs H' => (∀ a xs, (V.ref a) ∈ vs → (SqL X.K H' a xs ∨ SqT X.K H' a xs) → xs.length ≤ sizeLine) → Q vs H') := by
  refine ⟨fun pos pins s σ H Q I hq => ?_⟩
  refine thn (h.run pos pins s σ H _ I hq) fun u s1 ⟨v, H1, I1, r, q⟩ => ⟨v, H1, I1, r, q fun a xs e z => ?_⟩
  rcases z with z | z
  · obtain ⟨_, _, _, hz⟩ := I1.list z; exact hz
  · obtain ⟨_, _, _, hz⟩ := I1.tuple z; exact hz
def tLen (K : Fg) (t : TA) : TA := fun σ H Q => t σ H fun vs H' => (∀ a xs, (V.ref a) ∈ vs → (SqL K H' a xs ∨ SqT K H' a xs) → xs.length ≤ sizeLine) → Q vs H'
theorem mi_enum {X : Cx} {W : WX} {S : Sg} {e : Expr} {p pos tpos : Pos} {elts : List Expr} {kk : Nat} {ms : Ev → Out (List D)} (hg : Gl X "enumerate") (hm : X.mg "enumerate" = none) (ha : MA X W S [e] ms) (hs : starEach [e] X.env = [(false, eval e X.env)] := by rfl) : MI X W S (.Tuple elts kk tpos) (.Call (.Name "enumerate" p) [e] [] pos) (mEnum ms) := by
  obtain ⟨t, pt, q⟩ := ha.ex
  have pt' := pa_len pt
  have hl := sizeLine_eq
  refine ⟨fun σ H R => iEnumL X.K (tLen X.K t) σ H R ∨ iEnumT X.K (tLen X.K t) σ H R, ⟨fun pins s σ H R I h => ?_⟩, fun B F H σ ρ R I h => ?_⟩
  · rcases h with h | h
    · exact (pi_enumL hg hm pt' hs).run pins s σ H R I h
    · exact (pi_enumT hg hm pt' hs).run pins s σ H R I h
  · have hb := Sat.bind h
    cases e1 : ms ρ with
    | bad => rw [e1] at hb; exact hb.elim
    | err c ρ' =>
      rw [e1] at hb
      exact .inl (q B F H σ ρ _ I (by rw [e1]; exact hb))
    | ok ds ρ1 =>
      rw [e1] at hb
      have hb : Sat (match ds with
        | [.list xs] => Out.ok (enumD xs) ρ1
        | [.tuple xs] => Out.ok (enumD xs) ρ1
        | _ => Out.bad) (IKo X.K S B σ F R) (XKo X W S B σ F) := hb
      split at hb
      · refine .inl (q B F H σ ρ _ I ?_)
        rw [e1]
        intro F1 H1 vs I1 s1 r1 bd
        cases r1 with
        | cons r1 rr =>
          cases rr
          cases r1 with
          | lst hq hr =>
            have hz := bd _ _ (by simp) (.inl (.inl (rd_same I1.same hq)))
            exact ⟨_, _, rfl, .inl (rd_same I1.same hq), hb F1 H1 _ I1 s1 (walkD_enum hq hr) (by rw [enumD_len, ← hr.len]; omega)⟩
      · refine .inr (q B F H σ ρ _ I ?_)
        rw [e1]
        intro F1 H1 vs I1 s1 r1 bd
        cases r1 with
        | cons r1 rr =>
          cases rr
          cases r1 with
          | tup hq hr =>
            have hq := hq.sq
            have hz := bd _ _ (by simp) (.inr (sqT_same I1.same hq))
            exact ⟨_, _, rfl, sqT_same I1.same hq, hb F1 H1 _ I1 s1 (walkD_enumT hq hr) (by rw [enumD_len, ← hr.len]; omega)⟩
      · exact hb.elim
end MW
namespace MW
open PySem PySem.Spec PyProof.Rows L2
def dd : List Int → List Int
  | [] => []
  | n :: ns => if n ∈ dd ns then dd ns else n :: dd ns
theorem mem_dd {x : Int} : ∀ {ns : List Int}, x ∈ dd ns ↔ x ∈ ns
  | [] => Iff.rfl
  | n :: ns => by
    unfold dd
    split
    · rename_i h
      rw [mem_dd (ns := ns), List.mem_cons]
      exact ⟨.inr, fun z => z.elim (fun e => by rw [e]; exact mem_dd.mp h) id⟩
    · rw [List.mem_cons, List.mem_cons, mem_dd (ns := ns)]
theorem dd_nodup : ∀ ns : List Int, (dd ns).Nodup
  | [] => List.nodup_nil
  | n :: ns => by
    unfold dd
    split
    · exact dd_nodup ns
    · rename_i h
      exact List.nodup_cons.mpr ⟨h, dd_nodup ns⟩
theorem sub_len : ∀ {xs ys : List Int}, xs.Nodup → (∀ n ∈ xs, n ∈ ys) → xs.length ≤ ys.length
  | [], _, _, _ => Nat.zero_le _
  | x :: xs, ys, h, s => by
    have hx := s x List.mem_cons_self
    have h1 := sub_len (xs := xs) (ys := ys.erase x) (List.nodup_cons.mp h).2 fun n hn => (List.mem_erase_of_ne (fun e => (List.nodup_cons.mp h).1 (by rw [← e]; exact hn))).mpr (s n (List.mem_cons_of_mem _ hn))
    rw [List.length_erase_of_mem hx] at h1
    have := List.length_pos_of_mem hx
    rw [List.length_cons]
    omega
theorem nodup_len {xs ys : List Int} (h : xs.Nodup) (k : ys.Nodup) (e : ∀ n, n ∈ xs ↔ n ∈ ys) : xs.length = ys.length :=
  Nat.le_antisymm (sub_len h fun n hn => (e n).mp hn) (sub_len k fun n hn => (e n).mpr hn)
def intsOf : List D → Option (List Int)
  | [] => some []
  | .int n :: ds => (intsOf ds).map (n :: ·)
  | _ => none
theorem rpL_intsD {K : Fg} {F : Hp} : ∀ {ds : List D} {xs : List V} {ns : List Int}, RpL K F xs ds → intsOf ds = some ns → xs = ns.map V.int
  | [], _, _, .nil, e => by cases e; rfl
  | d :: ds, _, _, .cons r rr, e => by
    cases d with
    | int n =>
      obtain ⟨m, e1, rfl⟩ := Option.map_eq_some_iff.mp (show (intsOf ds).map (n :: ·) = _ from e)
      cases r
      rw [rpL_intsD rr e1]; rfl
    | _ => cases e
def gLenSet : D → Option D
  | .tuple ds => (intsOf ds).bind fun ns => if ns.length ≤ 4000 then some (.int ((dd ns).length : Nat)) else none
  | _ => none
section
variable {X : Cx} {W : WX} {S : Sg} {a : Expr} {ma : Ev → Out D}
def tLenSetT (K : Fg) (ta : TE) : TE := fun σ H Q => ta σ H fun x H1 => ∃ (l : Addr) (ns : List Int), x = V.ref l ∧ SqT K H1 l (ns.map V.int) ∧ ns.length ≤ 4000 ∧ Q (.int ((dd ns).length : Nat)) H1
theorem pe_lenSetT {ta : TE} {p p2 q pos : Pos} (hc : X.calm = true) (hg : Gl X "len") (hm : X.mg "len" = none) (hg2 : Gl X "set") (hm2 : X.mg "set" = none) (ha : PE X a ta)
    (na : starEach [a] X.env = (false, eval a X.env) :: starEach [] X.env := by rfl) : PE X (.Call (.Name "len" p) [.Call (.Name "set" p2) [a] [] q] [] pos) (tLenSetT X.K ta) := by
  refine ⟨fun pins s σ H Q I h => ?_⟩
  refine Call_ (ld_blt I hg hm PySem.boot_len ?_)
  refine PyProof.Rows.callWith_builtin1 (PyProof.Rows.args_cons ?_ rfl) rfl rfl
  refine Call_ (ld_blt I hg2 hm2 PyProof.Rows.boot_set ?_)
  refine PyProof.Rows.callWith_type1 (PyProof.Rows.args_cons (thn (ha.run pins s σ H _ I h) fun v s1 ⟨x, H1, I1, r1, q1⟩ => PyProof.Rows.args_nil ?_) na) na rfl
  obtain ⟨l, ns, rfl, hq, h1, q1⟩ := q1
  cases r1
  obtain ⟨its, r, pl, hz⟩ := I1.tuple hq
  refine call_set_tupI ns (I1.ok.hd hc) pl (by simpa using r.ints) (by unfold scanBound; omega) fun h' tk c hS hle hk => ?_
  refine PyProof.Rows.args_nil ?_
  obtain ⟨o, es, ep, t, ho, hex, hd, _, hnd, hk2, _, hf, hn, _⟩ := hS
  have I2 : Inv X pins σ H1 { s1 with heap := h', toks := tk } := I1.kept hk
  have e : es.size = (dd ns).length := by
    have := nodup_len hnd (dd_nodup ns) fun k => (hk2 k).symm.trans (by rw [mem_dd]; exact decide_eq_true_iff)
    simpa using this
  refine call_len_set ho hex hd hf (by rw [hn] <;> omega) ⟨.int ((dd ns).length : Nat), H1, I2.tok _, ⟨_, by rw [e]⟩, q1⟩
theorem me_lenSet {p p2 q pos : Pos} (hc : X.calm = true) (hg : Gl X "len") (hm : X.mg "len" = none) (hg2 : Gl X "set") (hm2 : X.mg "set" = none) (ha : ME X W S a ma)
    (na : starEach [a] X.env = (false, eval a X.env) :: starEach [] X.env := by rfl) : ME X W S (.Call (.Name "len" p) [.Call (.Name "set" p2) [a] [] q] [] pos) (mUn gLenSet ma) := by
  obtain ⟨t, pt, k⟩ := ha.ex
  refine ⟨_, pe_lenSetT hc hg hm hg2 hm2 pt na, fun B F H σ ρ Q I h => ?_⟩
  refine k B F H σ ρ _ I (h.bind.mono (fun d ρ1 h1 F1 H1 x I1 s1 r1 => ?_) fun _ _ z => z)
  obtain ⟨z, hz, h3⟩ := sat_of h1
  unfold gLenSet at hz
  split at hz
  · obtain ⟨ns, e1, e2⟩ := Option.bind_eq_some_iff.mp hz
    split at e2
    · rename_i hl
      cases e2
      cases r1 with
      | tup hq hr =>
        have e := rpL_intsD hr e1
        subst e
        exact ⟨_, ns, rfl, sqT_same I1.same hq.sq, hl, h3 F1 H1 _ I1 s1 (.int _)⟩
    · cases e2
  · cases hz
end
end MW
namespace MW
open PySem PySem.Spec PyProof.Rows L2
def whole {α : Type} (xs : List α) (lo hi : Option Int) : Prop := HT.sIx xs.length 0 lo = 0 ∧ HT.sIx xs.length xs.length hi = xs.length
def rSlM (K : Fg) : V → Option Int → Option Int → Hp → VK → Prop := fun x lo hi H Q => ∃ a xs, x = .ref a ∧ SqT K H a xs ∧ (whole xs lo hi → Q (.ref a) H) ∧
  (¬ whole xs lo hi → ∀ (p : Addr) (o : Obj), o.dict = none → H p = none → Q (.ref p) (upd H p (.frz o (.tup (cutV xs lo hi)))))
section
variable {X : Cx}
theorem sl_tupM : SlR X (rSlM X.K) := by
  intro pins s σ H x v vl vu lo hi sl Q I rx hs pl pu ⟨a, xs, ex, hx, q1, q2⟩
  by_cases hw : whole xs lo hi
  · exact sl_tupA pins s σ H x v vl vu lo hi sl Q I rx hs pl pu ⟨a, xs, ex, hx, q1, fun z => absurd hw z⟩
  subst ex
  cases rx
  obtain ⟨its, r, ht, hz⟩ := I.tuple hx
  have hn : its.toArray.size = xs.length := by rw [List.size_toArray, r.length]
  refine ⟨"tuple", _, PyProof.Rows.slot_tuple_getitem.lookup, ht.typeIs, HT.getItem_tuple_cut ht hs pl pu (by rw [hn]; exact hw) ?_ (by rw [hn]; exact hz)⟩
  rw [hn]
  exact mkT I ((r.drop _).take _) (Nat.le_trans (cutV_length xs lo hi) hz) (q2 hw)
end
def cutD (ds : List D) (lo hi : Option Int) : List D := (ds.drop (HT.sIx ds.length 0 lo)).take (HT.sIx ds.length ds.length hi - HT.sIx ds.length 0 lo)
theorem RpL.cut {K : Fg} {F : Hp} {xs : List V} {ds : List D} (r : RpL K F xs ds) (lo hi : Option Int) : RpL K F (cutV xs lo hi) (cutD ds lo hi) := by
  unfold cutV cutD
  rw [r.len]
  exact RpL.take _ (RpL.drop _ r)
theorem cutD_whole {ds : List D} {lo hi : Option Int} (h : whole ds lo hi) : cutD ds lo hi = ds := by
  unfold cutD
  rw [h.1, h.2, List.drop_zero, Nat.sub_zero, List.take_length]
abbrev OKo (K : Fg) (S : Sg) (B : Base) (σ : Sts) (F : Hp) (R : Option Int → Hp → Prop) : Option Int → Ev → Prop := fun o ρ1 => ∀ F1 H1, SInv K S B σ F1 H1 ρ1 → Same F F1 → R o H1
structure MO (X : Cx) (W : WX) (S : Sg) (oe : Option Expr) (m : Ev → Out (Option Int)) : Prop where
  ex : ∃ t : TO, PO X oe t ∧ ∀ B F H σ ρ R, SInv X.K S B σ F H ρ → Sat (m ρ) (OKo X.K S B σ F R) (XKo X W S B σ F) → t σ H R
def mPart (ma : Ev → Out D) : Ev → Out (Option Int) := fun ρ => (ma ρ).bind fun d ρ1 => match d with
  | .int i => .ok (some i) ρ1
  | _ => .bad
def mSl (ma : Ev → Out D) (ml mh : Ev → Out (Option Int)) : Ev → Out D := fun ρ => (ma ρ).bind fun d ρ1 => (ml ρ1).bind fun lo ρ2 => (mh ρ2).bind fun hi ρ3 => match d with
  | .tuple ds => .ok (.tuple (cutD ds lo hi)) ρ3
  | .list ds => .ok (.list (cutD ds lo hi)) ρ3
  | _ => .bad
section
variable {X : Cx} {W : WX} {S : Sg} {a : Expr} {ma : Ev → Out D} {lo hi : Option Expr} {ml mh : Ev → Out (Option Int)} {pos p2 : Pos}
theorem mo_some (h : ME X W S a ma) : MO X W S (some a) (mPart ma) := by
  obtain ⟨t, p, q⟩ := h.ex
  refine ⟨_, po_some p, fun B F H σ ρ R I hh => q B F H σ ρ _ I ((Sat.bind hh).mono (fun d ρ1 h1 F1 H1 x I1 s1 r1 => ?_) fun _ _ z => z)⟩
  have h1 : Sat (match d with
    | .int i => .ok (some i) ρ1
    | _ => .bad) (OKo X.K S B σ F R) (XKo X W S B σ F) := h1
  split at h1
  · cases r1; exact ⟨_, rfl, h1 F1 H1 I1 s1⟩
  · exact h1.elim
theorem me_sl (ha : ME X W S a ma) (hl : MO X W S lo ml) (hh : MO X W S hi mh) : ME X W S (.Subscript a (.Slice lo hi none p2) pos) (mSl ma ml mh) := by
  obtain ⟨t, p, q⟩ := ha.ex
  obtain ⟨tl, pl, ql⟩ := hl.ex
  obtain ⟨th, ph, qh⟩ := hh.ex
  refine ⟨_, pe_slice (sl_tupM.or sl_list) p pl ph, fun B F H σ ρ Q I h => ?_⟩
  refine q B F H σ ρ _ I ((Sat.bind h).mono (fun d ρ1 h1 F1 H1 x I1 s1 r1 => ?_) fun _ _ z => z)
  refine ql B F1 H1 σ ρ1 _ I1 ((Sat.bind h1).mono (fun l ρ2 h2 F2 H2 I2 s2 => ?_) fun _ _ z => XKo.up s1 z)
  refine qh B F2 H2 σ ρ2 _ I2 ((Sat.bind h2).mono (fun u ρ3 h3 F3 H3 I3 s3 => ?_) fun _ _ z => XKo.up (s1.trans s2) z)
  have h3 : Sat (match d with
    | .tuple ds => .ok (.tuple (cutD ds l u)) ρ3
    | .list ds => .ok (.list (cutD ds l u)) ρ3
    | _ => .bad) (EKo X.K S B σ F Q) (XKo X W S B σ F) := h3
  have s := s2.trans s3
  split at h3
  · rename_i ds _
    cases r1 with
    | tup hq hr =>
      have hr3 := hr.up s
      refine .inl ⟨_, _, rfl, sqT_same (s.trans I3.same) hq.sq, fun hw => ?_, fun hw p o ho hp => ?_⟩
      · have hw2 : whole ds l u := by unfold whole at hw ⊢; rw [hr.len] at hw; exact hw
        have := h3 F3 H3 _ I3 (s1.trans s) (Rp.tup (sqM_same s hq) (by rw [cutD_whole hw2]; exact hr3))
        exact this
      · exact (EKo.up (s1.trans s) h3).tup I3 (hr3.cut l u) ho hp
  · cases r1 with
    | lst hq hr => exact .inr ⟨_, _, rfl, .inl (rd_same (s.trans I3.same) hq), fun p hp => (EKo.up (s1.trans s) h3).lst I3 ((hr.up s).cut l u) hp⟩
  · exact h3.elim
end
end MW
namespace MW
open PySem PySem.Spec PyProof.Rows L2
section
variable {K : Fg} {S : Sg} {B : Base} {σ : Sts} {F H : Hp} {ρ : Ev} {vs : List Nat}
theorem SInv.forget (I : SInv K S B σ F H ρ) (hv : ∀ i ∈ vs, own S i = false) : SInv K S B σ F H (wipeE ρ vs) := by
  refine I.weak (wipeE_len vs) (fun i d e => (wipeE_at e).1) fun x j d d' kx ex ax ej => ?_
  have hx := (wipeE_at ex).1
  obtain ⟨j', _, _, _, _, _, f1, f2, _⟩ := I.al x d hx kx
  rw [ax] at f1
  cases f1
  have hj : j ∉ vs := fun z => by
    have := hv j z
    rw [own_of2 (deep_knd f2)] at this
    cases this
  have : ∀ us : List Nat, j ∉ us → (wipeE ρ us)[j]? = ρ[j]? := by
    intro us
    induction us with
    | nil => intro _; rfl
    | cons u us ih =>
      intro h
      show ((wipeE ρ us).set u none)[j]? = _
      rw [List.getElem?_set_ne (fun z => h (by rw [z]; exact List.mem_cons_self))]
      exact ih fun z => h (List.mem_cons_of_mem _ z)
  rw [this vs hj]
  exact ej
end
end MW
namespace MW
open PySem PySem.Spec PyProof.Rows L2
def Acc (K : Fg) (S : Sg) (B : Base) (σ : Sts) (F0 : Hp) (Dn : Addr) (F2 H2 : Hp) (ρ2 : Ev) (acc : List V) (ys : List D) : Prop :=
  SInv K S B σ F2 H2 ρ2 ∧ Same F0 F2 ∧ F2 Dn = none ∧ H2 Dn = some (.lst acc) ∧ RpL K F2 acc ys ∧ ∀ j a, Held S σ H2 ρ2 j a → a ≠ Dn
theorem wipe_twice {σ σ' : Sts} {vs : List Nat} (h : wipe σ' vs = wipe (wipe σ vs) vs) : wipe σ' vs = wipe σ vs := by
  rw [h]
  refine List.ext_getElem? fun i => ?_
  by_cases hi : i ∈ vs
  · have nn : ∀ (τ : Sts), τ.length = σ.length → ∀ (us : List Nat), i ∈ us → (wipe τ us)[i]? = if i < σ.length then some none else none := by
      intro τ hτ us
      induction us with
      | nil => intro z; cases z
      | cons u us ih =>
        intro z
        show ((wipe τ us).set u none)[i]? = _
        by_cases hu : u = i
        · subst hu
          by_cases hlt : u < σ.length
          · rw [List.getElem?_set_self (by rw [wipe_length, hτ]; exact hlt), if_pos hlt]
          · rw [List.getElem?_eq_none (by rw [List.length_set, wipe_length, hτ]; omega), if_neg hlt]
        · rw [List.getElem?_set_ne hu]
          refine ih ?_
          rcases List.mem_cons.mp z with z | z
          · exact absurd z.symm hu
          · exact z
    rw [nn _ (wipe_length σ vs) vs hi, nn _ rfl vs hi]
  · rw [wipe_out hi]
section
variable {K : Fg} {S : Sg} {B : Base} {σ : Sts} {F H : Hp} {ρ : Ev} {vs : List Nat} {Dn : Addr}
/-- a turn of a comprehension, from the base as it stands and back: what is kept and what may be written -/
theorem turn_back {σ0 : Sts} {F4 H4 : Hp} {ρ4 : Ev} {acc : List V} (I4 : SInv K S B σ0 F4 H4 ρ4) (n4 : F4 Dn = none) (d4 : H4 Dn = some (.lst acc)) (hn4 : ∀ j a, Held S σ0 H4 ρ4 j a → a ≠ Dn) {σ5 : Sts} {F7 H7 : Hp} {ρ7 : Ev}
    (h5 : σ5.length = σ0.length) (w5 : ∀ j, own S j = true → σ5[j]? = σ0[j]?) (I7 : SInv K S (reb B.T S σ0 F4 H4 ρ4) σ5 F7 H7 ρ7) : H7 Dn = some (.lst acc) ∧ F7 Dn = none ∧ SInv K S B σ5 F7 H7 ρ7 ∧ ∀ j a, Held S σ5 H7 ρ7 j a → a ≠ Dn := by
  have nO : ¬ (reb B.T S σ0 F4 H4 ρ4).O Dn := reb_no I4.ext.tb hn4 d4 soft_lst
  refine ⟨I7.ext.hs Dn _ d4 nO, ?_, I4.back I7, fun j a hh z => ?_⟩
  · cases q : F7 Dn with
    | none => rfl
    | some o =>
      rcases I7.ext.fr Dn o q with z | z | ⟨j, _, z⟩
      · have z : F4 Dn = some o := z
        rw [n4] at z; cases z
      · have z : H4 Dn = none := z
        rw [d4] at z; cases z
      · exact absurd rfl (hn4 j Dn z)
  · subst z
    obtain ⟨_, _, o⟩ := I7.heldAt hh
    rcases o with ⟨z, _⟩ | o
    · exact nO z
    · have o : H4 a = none := o
      rw [d4] at o; cases o
theorem held_wipe (hv : ∀ i ∈ vs, knd S i = 0) {i : Nat} {b : Addr} (h : Held S (wipe σ vs) H (wipeE ρ vs) i b) : Held S σ H ρ i b := by
  obtain ⟨k, ⟨d, e⟩, a, e1, h⟩ := h
  have hi : i ∉ vs := fun z => by rw [own_of0 (hv i z)] at k; cases k
  exact ⟨k, ⟨d, (wipeE_at e).1⟩, a, by rw [wipe_out hi] at e1; exact e1, h⟩
theorem at_wipe {σ' : Sts} (hv : ∀ i ∈ vs, knd S i = 0) (h : wipe σ' vs = wipe σ vs) {j : Nat} (k : own S j = true) : σ'[j]? = σ[j]? := by
  have hj : j ∉ vs := fun z => by rw [own_of0 (hv j z)] at k; cases k
  have := congrArg (fun l : Sts => l[j]?) h
  simpa only [wipe_out hj] using this
theorem len_wipe {σ' : Sts} (h : wipe σ' vs = wipe σ vs) : σ'.length = σ.length := by
  have := congrArg List.length h
  rwa [wipe_length, wipe_length] at this
/-- the inner walk: items are put behind what is there -/
theorem lc_walk {mg : Str → Option Value} {g : Ev → D → Option Ev} {t : TG} {mt : Ev → Out Bool} {me : Ev → Out D} {items : List D} {J : It} {Stop : Hp → Prop} {acc0 : List V} {ys0 : List D}
    (hv : ∀ i ∈ vs, knd S i = 0) (hg : ∀ B F H σ ρ v d ρ1 (Q : Sts → Hp → Prop), SInv K S B σ F H ρ → Rp K F v d → g ρ d = some ρ1 → (∀ σ', SInv K S B σ' F H ρ1 → wipe σ' vs = wipe σ vs → Q σ' H) → t v σ H Q)
    (A : Acc K S B (wipe σ vs) F Dn F H (wipeE ρ vs) acc0 ys0) (wd : WalkD K F J items) (hl : acc0.length + items.length ≤ 16777216) (hB : B.H Dn = none)
    (h : Sat (noE (compM g mt me vs items (wipeE ρ vs))) (fun zs ρ3 => ∀ F2 H2 acc, Acc K S B (wipe σ vs) F Dn F2 H2 ρ3 acc (ys0 ++ zs) → acc.length ≤ acc0.length + items.length → Stop H2) (fun _ _ => False)) :
    ∃ W' : Nat → Nat → Hp → Prop, (∃ m, W' 0 m H) ∧ ∀ i m H, W' i m H →
      (J.stop i H ∧ Stop H) ∨ (J.go i H ∧ ∃ Nx : Hp → Prop, (∀ H', Nx H' → ∃ m', m' < m ∧ W' (i + 1) m' H') ∧ ∀ x H', J.yld i H x H' → t x (wipe σ vs) H' fun σ2 H2 => wipe σ2 vs = wipe σ vs ∧ tMT K mg W0 S mt σ2 H2 fun b H3 =>
        if b = true then tME K mg W0 S me σ2 H3 fun y H4 => ∃ acc, H4 Dn = some (.lst acc) ∧ acc.length < sizeLine ∧ Nx (upd H4 Dn (.lst (acc ++ [y]))) else Nx H3) := by
  have hsz := sizeLine_eq
  let P : Nat → Hp → Prop := fun i H2 => i ≤ items.length ∧ ∃ F2 ρ2 acc ys, Acc K S B (wipe σ vs) F Dn F2 H2 ρ2 acc (ys0 ++ ys) ∧ acc.length ≤ acc0.length + i ∧
    Sat (noE (compM g mt me vs (items.drop i) ρ2)) (fun zs ρ3 => ∀ F2 H2 acc, Acc K S B (wipe σ vs) F Dn F2 H2 ρ3 acc (ys0 ++ (ys ++ zs)) → acc.length ≤ acc0.length + items.length → Stop H2) (fun _ _ => False)
  refine ⟨fun i m H2 => m = items.length - i ∧ P i H2, ⟨_, rfl, Nat.zero_le _, F, wipeE ρ vs, acc0, [], by rw [List.append_nil]; exact A, Nat.le_refl _, by simpa using h⟩, ?_⟩
  rintro i m H2 ⟨rfl, hi, F2, ρ2, acc, ys, ⟨I2, s2, nD, hDn, ra, hn⟩, la, h2⟩
  by_cases hlt : i < items.length
  · refine .inr ⟨wd.goes i H2 hlt (s2.trans I2.same), fun H' => P (i + 1) H', fun H' hP => ⟨items.length - (i + 1), by omega, rfl, hP⟩, fun x H' y => ?_⟩
    have hd : items.drop i = items[i] :: items.drop (i + 1) := List.drop_eq_getElem_cons hlt
    rw [hd] at h2
    have go : ∀ F4 H4, SInv K S B (wipe σ vs) F4 H4 ρ2 → Same F2 F4 → F4 Dn = none → H4 Dn = some (.lst acc) → (∀ j a, Held S (wipe σ vs) H4 ρ2 j a → a ≠ Dn) → Rp K F4 x items[i] → t x (wipe σ vs) H4 fun σ5 H5 => wipe σ5 vs = wipe σ vs ∧ tMT K mg W0 S mt σ5 H5 fun b H3 =>
        if b = true then tME K mg W0 S me σ5 H3 fun y H4 => ∃ acc, H4 Dn = some (.lst acc) ∧ acc.length < sizeLine ∧ P (i + 1) (upd H4 Dn (.lst (acc ++ [y]))) else P (i + 1) H3 := fun F4 H4 I4 s4 n4 d4 hn4 r4 => by
      have h3 := noE_sat h2 (fun _ _ => False)
      obtain ⟨ρ5, hg5, h5⟩ := sat_of (Sat.bind (show Sat ((Out.of (g ρ2 items[i]) ρ2).bind _) _ _ from h3))
      refine hg _ F4 H4 _ ρ2 x items[i] ρ5 _ I4.into r4 hg5 fun σ5 I5 w5 => ⟨wipe_twice w5, _, F4, ρ5, I5, (Sat.bind h5).mono (fun b ρ6 h6 F6 H6 I6 s6 => ?_) fun _ _ z => z.elim⟩
      have w5' := wipe_twice w5
      have keep : ∀ {F7 H7 ρ7}, SInv K S (reb B.T S (wipe σ vs) F4 H4 ρ2) σ5 F7 H7 ρ7 → H7 Dn = some (.lst acc) ∧ F7 Dn = none ∧ SInv K S B (wipe σ vs) F7 H7 (wipeE ρ7 vs) ∧ ∀ j a, Held S (wipe σ vs) H7 (wipeE ρ7 vs) j a → a ≠ Dn := fun {F7 H7 ρ7} I7 => by
        obtain ⟨k1, k2, k3, k4⟩ := turn_back I4 n4 d4 hn4 (len_wipe w5) (fun j k => at_wipe hv w5 k) I7
        have k5 := k3.wipe vs hv
        rw [w5'] at k5
        refine ⟨k1, k2, k5, fun j a hh => k4 j a ?_⟩
        rw [← w5'] at hh
        exact held_wipe hv hh
      cases b with
      | false =>
        obtain ⟨k1, k2, k3, k4⟩ := keep I6
        refine iteF ⟨hlt, F6, wipeE ρ6 vs, acc, ys, ⟨k3, (s2.trans s4).trans s6, k2, k1, ra.up (s4.trans s6), k4⟩, by omega, ?_⟩
        have h6' : Sat (compM g mt me vs (items.drop (i + 1)) (wipeE ρ6 vs)) _ _ := h6
        revert h6'
        cases compM g mt me vs (items.drop (i + 1)) (wipeE ρ6 vs) <;> exact fun z => z
      | true =>
        refine iteT ⟨_, F6, ρ6, I6, (Sat.bind h6).mono (fun y ρ7 h7 F7 H7 v I7 s7 r7 => ?_) fun _ _ z => z.elim⟩
        obtain ⟨k1, k2, k3, k4⟩ := keep I7
        refine ⟨acc, k1, by omega, hlt, F7, wipeE ρ7 vs, acc ++ [v], ys ++ [y], ⟨k3.setFree k2 hB k4 (fun o0 e => by rw [k1] at e; cases e; exact soft_lst), ((s2.trans s4).trans s6).trans s7, k2, upd_same, ?_, fun j a hh => k4 j a (held_same (fun c ec => by rw [upd_ne (k4 j c (k3.topHeld hh.1 hh.2.1 ec))]) hh)⟩, ?_, ?_⟩
        · rw [← List.append_assoc]
          exact (ra.up ((s4.trans s6).trans s7)).app (.one r7)
        · rw [List.length_append]; simp; omega
        · have h8 := Sat.bind h7
          revert h8
          cases compM g mt me vs (items.drop (i + 1)) (wipeE ρ7 vs) with
          | ok zs ρ8 =>
            intro h8 F' H' acc' A' hl'
            refine h8 F' H' acc' ?_ hl'
            have e : ys0 ++ (ys ++ y :: zs) = ys0 ++ (ys ++ [y] ++ zs) := by simp
            rw [e]; exact A'
          | err c ρ8 => exact fun z => z
          | bad => exact fun z => z
    rcases wd.yields i H2 x H' items[i] (by simp [hlt]) (s2.trans I2.same) y with ⟨rfl, r⟩ | ⟨T, o, xs, ds, rfl, hT, ho, rfl, r, e⟩
    · exact go F2 H' I2 (Same.refl _) nD hDn hn (r.up s2)
    · have hF : F2 T = none := Same.free I2.same hT
      have sF := same_upd (o := .frz o (.tup xs)) hF
      have hne : Dn ≠ T := ne_of_none hDn hT
      refine go (upd F2 T (.frz o (.tup xs))) _ (I2.newF hT) sF (by rw [upd_ne hne]; exact nD) (by rw [upd_ne hne]; exact hDn) (fun j a hh => hn j a (held_same (fun c ec => by rw [upd_ne (I2.heldNe hT j c (I2.topHeld hh.1 hh.2.1 ec))]) hh)) ?_
      rw [e]
      exact .tup (.inl ⟨o, ho, upd_same⟩) ((r.up s2).up sF)
  · have e : i = items.length := by omega
    subst e
    rw [List.drop_length] at h2
    have h3 : ∀ F2 H2 acc, Acc K S B (wipe σ vs) F Dn F2 H2 ρ2 acc (ys0 ++ (ys ++ [])) → acc.length ≤ acc0.length + items.length → Stop H2 := h2
    rw [List.append_nil] at h3
    exact .inl ⟨wd.stops H2 (s2.trans I2.same), h3 F2 H2 acc ⟨I2, s2, nD, hDn, ra, hn⟩ la⟩
end
end MW
namespace MW
open PySem PySem.Spec PyProof.Rows L2
def tMI (K : Fg) (mg : Str → Option Value) (W : WX) (S : Sg) (mi : Ev → Out (List D)) : TI := fun σ H R => ∃ B F ρ, SInv K S B σ F H ρ ∧ Sat (mi ρ) (IKo K S B σ F R) (fun c ρ' => ∀ F' H' C, SInv K S B σ F' H' ρ' → Same F F' → mg c = some (.ref C) → W (.ref C) none σ H')
theorem MI.run {X : Cx} {W : WX} {S : Sg} {tg iter : Expr} {mi : Ev → Out (List D)} (h : MI X W S tg iter mi) : PI X tg iter (tMI X.K X.mg W S mi) := by
  obtain ⟨t, p, q⟩ := h.ex
  exact ⟨fun pins s σ H R I ⟨B, F, ρ, J, z⟩ => p.run pins s σ H R I (q B F H σ ρ R J z)⟩
theorem wipe_sub {σ : Sts} {vs us : List Nat} (h : ∀ i ∈ us, i ∈ vs) : wipe (wipe σ us) vs = wipe σ vs := by
  refine List.ext_getElem? fun i => ?_
  by_cases hi : i ∈ vs
  · have nn : ∀ (τ : Sts), τ.length = σ.length → ∀ (ws : List Nat), i ∈ ws → (wipe τ ws)[i]? = if i < σ.length then some none else none := by
      intro τ hτ ws
      induction ws with
      | nil => intro z; cases z
      | cons u ws ih =>
        intro z
        show ((wipe τ ws).set u none)[i]? = _
        by_cases hu : u = i
        · subst hu
          by_cases hlt : u < σ.length
          · rw [List.getElem?_set_self (by rw [wipe_length, hτ]; exact hlt), if_pos hlt]
          · rw [List.getElem?_eq_none (by rw [List.length_set, wipe_length, hτ]; omega), if_neg hlt]
        · rw [List.getElem?_set_ne hu]
          refine ih ?_
          rcases List.mem_cons.mp z with z | z
          · exact absurd z.symm hu
          · exact z
    rw [nn _ (wipe_length σ us) vs hi, nn _ rfl vs hi]
  · rw [wipe_out hi, wipe_out hi, wipe_out fun z => hi (h i z)]
def compM2 (g : Ev → D → Option Ev) (mt : Ev → Out Bool) (mi1 : Ev → Out (List D)) (g1 : Ev → D → Option Ev) (mt1 : Ev → Out Bool) (me : Ev → Out D) (vs vs1 : List Nat) : List D → Ev → Out (List D)
  | [], ρ => .ok [] ρ
  | d :: ds, ρ => (Out.of (g ρ d) ρ).bind fun ρ1 _ => (mt ρ1).bind fun b ρ2 =>
    if b = true then (mi1 ρ2).bind fun its ρ3 => if its.length ≤ 4096 then (compM g1 mt1 me vs1 its (wipeE ρ3 vs1)).bind fun ys ρ4 => (compM2 g mt mi1 g1 mt1 me vs vs1 ds (wipeE ρ4 vs)).bind fun zs ρ5 => .ok (ys ++ zs) ρ5 else .bad
    else compM2 g mt mi1 g1 mt1 me vs vs1 ds (wipeE ρ2 vs)
def mLc2 (mi : Ev → Out (List D)) (g : Ev → D → Option Ev) (mt : Ev → Out Bool) (mi1 : Ev → Out (List D)) (g1 : Ev → D → Option Ev) (mt1 : Ev → Out Bool) (me : Ev → Out D) (vs vs1 : List Nat) : Ev → Out (List D) := fun ρ => (mi ρ).bind fun items ρ1 =>
  if items.length ≤ 4096 then (noE (compM2 g mt mi1 g1 mt1 me vs vs1 items (wipeE ρ1 vs))).bind fun ys ρ2 => .ok ys (restE ρ1 ρ2 vs) else .bad
section
variable {K : Fg} {S : Sg} {B : Base} {σ : Sts} {F H : Hp} {ρ : Ev} {vs vs1 : List Nat}
theorem lc2_sat {mg : Str → Option Value} {g g1 : Ev → D → Option Ev} {t t1 : TG} {mt mt1 : Ev → Out Bool} {mi1 : Ev → Out (List D)} {me : Ev → Out D} {items : List D} {J : It} {Q : VK} {e : Str → Ev → Prop} {Dn : Addr}
    (hv : ∀ i ∈ vs, knd S i = 0) (hs : ∀ i ∈ vs1, i ∈ vs) (hg : ∀ B F H σ ρ v d ρ1 (Q : Sts → Hp → Prop), SInv K S B σ F H ρ → Rp K F v d → g ρ d = some ρ1 → (∀ σ', SInv K S B σ' F H ρ1 → wipe σ' vs = wipe σ vs → Q σ' H) → t v σ H Q)
    (hg1 : ∀ B F H σ ρ v d ρ1 (Q : Sts → Hp → Prop), SInv K S B σ F H ρ → Rp K F v d → g1 ρ d = some ρ1 → (∀ σ', SInv K S B σ' F H ρ1 → wipe σ' vs1 = wipe σ vs1 → Q σ' H) → t1 v σ H Q)
    (I : SInv K S B σ F H ρ) (wd : WalkD K F J items) (hl : items.length ≤ 4096) (hD : H Dn = none)
    (h : Sat ((noE (compM2 g mt mi1 g1 mt1 me vs vs1 items (wipeE ρ vs))).bind fun ys ρ2 => Out.ok ys (restE ρ ρ2 vs)) (LKo K S B σ F Q) e) :
    ∃ W' : Nat → Nat → Hp → Prop, (∃ m, W' 0 m (upd H Dn (.lst []))) ∧ ∀ i m H, W' i m H →
      (J.stop i H ∧ Q (.ref Dn) H) ∨ (J.go i H ∧ ∃ Nx : Hp → Prop, (∀ H', Nx H' → ∃ m', m' < m ∧ W' (i + 1) m' H') ∧ ∀ x H', J.yld i H x H' → t x (wipe σ vs) H' fun σ2 H2 => wipe σ2 vs = wipe σ vs ∧ tMT K mg W0 S mt σ2 H2 fun b H3 =>
        if b = true then tMI K mg W0 S mi1 σ2 H3 fun J1 H4 => ∃ W1 : Nat → Nat → Hp → Prop, (∃ m, W1 0 m H4) ∧ ∀ j k H, W1 j k H →
          (J1.stop j H ∧ Nx H) ∨ (J1.go j H ∧ ∃ Nx1 : Hp → Prop, (∀ H', Nx1 H' → ∃ k', k' < k ∧ W1 (j + 1) k' H') ∧ ∀ x H', J1.yld j H x H' → t1 x (wipe σ2 vs1) H' fun σ3 H5 => wipe σ3 vs1 = wipe σ2 vs1 ∧ tMT K mg W0 S mt1 σ3 H5 fun b H6 =>
            if b = true then tME K mg W0 S me σ3 H6 fun y H7 => ∃ acc, H7 Dn = some (.lst acc) ∧ acc.length < sizeLine ∧ Nx1 (upd H7 Dn (.lst (acc ++ [y]))) else Nx1 H6)
        else Nx H3) := by
  have hsz := sizeLine_eq
  have hv1 : ∀ i ∈ vs1, knd S i = 0 := fun i z => hv i (hs i z)
  have hB : B.H Dn = none := I.bnone hD
  let P : Nat → Hp → Prop := fun i H2 => i ≤ items.length ∧ ∃ F2 ρ2 acc ys, Acc K S B (wipe σ vs) F Dn F2 H2 ρ2 acc ys ∧ acc.length ≤ 4096 * i ∧
    Sat ((noE (compM2 g mt mi1 g1 mt1 me vs vs1 (items.drop i) ρ2)).bind fun zs ρ3 => Out.ok (ys ++ zs) (restE ρ ρ3 vs)) (LKo K S B σ F Q) e
  refine ⟨fun i m H2 => m = items.length - i ∧ P i H2, ⟨_, rfl, Nat.zero_le _, F, wipeE ρ vs, [], [], ⟨(I.newH hD).wipe vs hv, Same.refl _, Same.free I.same hD, upd_same, .nil, ?_⟩, Nat.zero_le _, by simpa using h⟩, ?_⟩
  · exact fun j a hh => (I.wipe vs hv).heldNe hD j a (held_same (fun c ec => by rw [upd_ne ((I.wipe vs hv).heldNe hD j c ((I.wipe vs hv).topHeld hh.1 hh.2.1 ec))]) hh)
  rintro i m H2 ⟨rfl, hi, F2, ρ2, acc, ys, ⟨I2, s2, nD, hDn, ra, hn⟩, la, h2⟩
  by_cases hlt : i < items.length
  · refine .inr ⟨wd.goes i H2 hlt (s2.trans I2.same), fun H' => P (i + 1) H', fun H' hP => ⟨items.length - (i + 1), by omega, rfl, hP⟩, fun x H' y => ?_⟩
    have hd : items.drop i = items[i] :: items.drop (i + 1) := List.drop_eq_getElem_cons hlt
    rw [hd] at h2
    have go : ∀ F4 H4, SInv K S B (wipe σ vs) F4 H4 ρ2 → Same F2 F4 → F4 Dn = none → H4 Dn = some (.lst acc) → (∀ j a, Held S (wipe σ vs) H4 ρ2 j a → a ≠ Dn) → Rp K F4 x items[i] → t x (wipe σ vs) H4 fun σ5 H5 => wipe σ5 vs = wipe σ vs ∧ tMT K mg W0 S mt σ5 H5 fun b H3 =>
        if b = true then tMI K mg W0 S mi1 σ5 H3 fun J1 H4 => ∃ W1 : Nat → Nat → Hp → Prop, (∃ m, W1 0 m H4) ∧ ∀ j k H, W1 j k H →
          (J1.stop j H ∧ P (i + 1) H) ∨ (J1.go j H ∧ ∃ Nx1 : Hp → Prop, (∀ H', Nx1 H' → ∃ k', k' < k ∧ W1 (j + 1) k' H') ∧ ∀ x H', J1.yld j H x H' → t1 x (wipe σ5 vs1) H' fun σ3 H5 => wipe σ3 vs1 = wipe σ5 vs1 ∧ tMT K mg W0 S mt1 σ3 H5 fun b H6 =>
            if b = true then tME K mg W0 S me σ3 H6 fun y H7 => ∃ acc, H7 Dn = some (.lst acc) ∧ acc.length < sizeLine ∧ Nx1 (upd H7 Dn (.lst (acc ++ [y]))) else Nx1 H6)
        else P (i + 1) H3 := fun F4 H4 I4 s4 n4 d4 hn4 r4 => by
      have h3 := noE_sat (Sat.bind h2) (fun _ _ => False)
      obtain ⟨ρ5, hg5, h5⟩ := sat_of (Sat.bind (show Sat ((Out.of (g ρ2 items[i]) ρ2).bind _) _ _ from h3))
      refine hg _ F4 H4 _ ρ2 x items[i] ρ5 _ I4.into r4 hg5 fun σ5 I5 w5 => ⟨wipe_twice w5, _, F4, ρ5, I5, (Sat.bind h5).mono (fun b ρ6 h6 F6 H6 I6 s6 => ?_) fun _ _ z => z.elim⟩
      have w5' := wipe_twice w5
      have keep : ∀ {F7 H7 ρ7}, SInv K S (reb B.T S (wipe σ vs) F4 H4 ρ2) σ5 F7 H7 ρ7 → H7 Dn = some (.lst acc) ∧ F7 Dn = none ∧ SInv K S B σ5 F7 H7 ρ7 ∧ ∀ j a, Held S σ5 H7 ρ7 j a → a ≠ Dn :=
        fun {F7 H7 ρ7} I7 => turn_back I4 n4 d4 hn4 (len_wipe w5) (fun j k => at_wipe hv w5 k) I7
      cases b with
      | false =>
        obtain ⟨k1, k2, k3, k4⟩ := keep I6
        have k5 := k3.wipe vs hv
        rw [w5'] at k5
        refine iteF ⟨hlt, F6, wipeE ρ6 vs, acc, ys, ⟨k5, (s2.trans s4).trans s6, k2, k1, ra.up (s4.trans s6), fun j a hh => k4 j a ?_⟩, by omega, ?_⟩
        · rw [← w5'] at hh
          exact held_wipe hv hh
        · exact noE_bind h6 fun zs ρ7 h7 => h7
      | true =>
        refine iteT ⟨_, F6, ρ6, I6, (Sat.bind h6).mono (fun its ρ7 h7 F7 H7 J1 I7 s7 wd7 hl7 => ?_) fun _ _ z => z.elim⟩
        obtain ⟨k1, k2, k3, k4⟩ := keep I7
        by_cases hle : its.length ≤ 4096
        · rw [if_pos hle] at h7
          have s27 := ((s2.trans s4).trans s6).trans s7
          refine lc_walk (F := F7) (H := H7) (ρ := ρ7) (B := B) (acc0 := acc) (ys0 := ys) hv1 hg1 ⟨k3.wipe vs1 hv1, Same.refl _, k2, k1, ra.up ((s4.trans s6).trans s7), fun j a hh => k4 j a (held_wipe hv1 hh)⟩ wd7 (by omega) hB ?_
          have h8 := Sat.bind h7
          revert h8
          cases compM g1 mt1 me vs1 its (wipeE ρ7 vs1) with
          | err c ρ8 => exact fun z => z
          | bad => exact fun z => z
          | ok us ρ8 =>
            intro h8 F9 H9 acc9 A9 l9
            obtain ⟨I9, s9, n9, d9, r9, hn9⟩ := A9
            have I10 := I9.wipe vs hv
            rw [wipe_sub hs, w5'] at I10
            refine ⟨hlt, F9, wipeE ρ8 vs, acc9, ys ++ us, ⟨I10, s27.trans s9, n9, d9, r9, fun j a hh => hn9 j a ?_⟩, by omega, ?_⟩
            · rw [← w5', ← wipe_sub hs] at hh
              exact held_wipe hv hh
            · have h10 := Sat.bind h8
              refine noE_bind h10 fun zs ρ10 h11 => ?_
              have e : ys ++ us ++ zs = ys ++ (us ++ zs) := List.append_assoc ..
              rw [e]
              exact h11
        · rw [if_neg hle] at h7
          exact h7.elim
    rcases wd.yields i H2 x H' items[i] (by simp [hlt]) (s2.trans I2.same) y with ⟨rfl, r⟩ | ⟨T, o, xs, ds, rfl, hT, ho, rfl, r, e⟩
    · exact go F2 H' I2 (Same.refl _) nD hDn hn (r.up s2)
    · have hF : F2 T = none := Same.free I2.same hT
      have sF := same_upd (o := .frz o (.tup xs)) hF
      have hne : Dn ≠ T := ne_of_none hDn hT
      refine go (upd F2 T (.frz o (.tup xs))) _ (I2.newF hT) sF (by rw [upd_ne hne]; exact nD) (by rw [upd_ne hne]; exact hDn) (fun j a hh => hn j a (held_same (fun c ec => by rw [upd_ne (I2.heldNe hT j c (I2.topHeld hh.1 hh.2.1 ec))]) hh)) ?_
      rw [e]
      exact .tup (.inl ⟨o, ho, upd_same⟩) ((r.up s2).up sF)
  · have e : i = items.length := by omega
    subst e
    rw [List.drop_length] at h2
    have h3 : LKo K S B σ F Q (ys ++ []) (restE ρ ρ2 vs) := h2
    rw [List.append_nil] at h3
    refine .inl ⟨wd.stops H2 (s2.trans I2.same), h3 F2 H2 Dn acc (I.rest hv (wipe_sub fun _ z => z) (wipe_length σ vs) s2 I2) s2 nD hDn ra hB fun j a ⟨k, ⟨d, e1⟩, c, e2, h⟩ => ?_⟩
    have hj : j ∉ vs := fun z => by rw [own_of0 (hv j z)] at k; cases k
    rw [restE_out hj] at e1
    exact hn j a ⟨k, ⟨d, e1⟩, c, by rw [wipe_out hj]; exact e2, h⟩
end
section
variable {X : Cx} {W : WX} {S : Sg} {pos : Pos}
theorem lc2_all {tg tg1 : Expr} {scope : Scope} {oS : List (Str × Nat)} {vs1 : List Nat} {mi mi1 : Ev → Out (List D)} {g g1 : Ev → D → Option Ev} {t t1 : TG} {mt mt1 : Ev → Out Bool} {me : Ev → Out D} {wi : TI} (hv' : ∀ i ∈ oS.map (·.2), knd S i = 0) (hs' : ∀ i ∈ vs1, i ∈ oS.map (·.2))
    (hg : ∀ (s : Shared) (H : Hp) (C : Addr) (cl : List (Str × Addr)) (fp : List Addr), MG (X.blk s H scope (compEnvC scope cl C X.env) fp) S tg t (oS.map (·.2)) g)
    (hg1 : ∀ (s : Shared) (H : Hp) (C : Addr) (cl : List (Str × Addr)) (fp : List Addr), MG (X.blk s H scope (compEnvC scope cl C X.env) fp) S tg1 t1 vs1 g1)
    (qw : ∀ B F H σ ρ R, SInv X.K S B σ F H ρ → Sat (mi ρ) (IKo X.K S B σ F R) (XKo X W S B σ F) → wi σ H R) {B : Base} {F H : Hp} {σ : Sts} {ρ : Ev} {Q : VK} (s0 : Shared) (I : SInv X.K S B σ F H ρ)
    (h : Sat (mLc2 mi g mt mi1 g1 mt1 me (oS.map (·.2)) vs1 ρ) (LKo X.K S B σ F Q) (XKo X W S B σ F)) : tLc2 wi t (tMT X.K X.mg W0 S mt) (tMI X.K X.mg W0 S mi1) t1 (tMT X.K X.mg W0 S mt1) (tME X.K X.mg W0 S me) (oS.map (·.2)) vs1 σ H Q := by
  refine qw B F H σ ρ _ I ((Sat.bind h).mono (fun items ρ1 h1 F1 H1 J I1 s1 wd hl => fun Dn hD => ?_) fun _ _ z => z)
  by_cases h4 : items.length ≤ 4096
  · rw [if_pos h4] at h1
    refine lc2_sat (e := fun _ _ => False) hv' hs' (fun B F H σ ρ v d ρ1 Q I r e k => (hg s0 H 0 [] []).ok B F H σ ρ v d ρ1 Q I r e k) (fun B F H σ ρ v d ρ1 Q I r e k => (hg1 s0 H 0 [] []).ok B F H σ ρ v d ρ1 Q I r e k) I1 wd h4 hD ?_
    cases e1 : noE (compM2 g mt mi1 g1 mt1 me (oS.map (·.2)) vs1 items (wipeE ρ1 (oS.map (·.2)))) with
    | ok ys ρ2 =>
      rw [e1] at h1
      exact fun F' H' p xs I' s' => h1 F' H' p xs I' (s1.trans s')
    | err c ρ2 =>
      exfalso
      revert e1
      cases compM2 g mt mi1 g1 mt1 me (oS.map (·.2)) vs1 items (wipeE ρ1 (oS.map (·.2))) <;> intro e1 <;> cases e1
    | bad => rw [e1] at h1; exact h1.elim
  · rw [if_neg h4] at h1
    exact h1.elim
theorem ms_setLc2 (i : Nat) {y : Str} {py spos : Pos} {elt tg iter tg1 iter1 : Expr} {ifs ifs1 : List Expr} {scope : Scope} {oS : List (Str × Nat)} {vs1 : List Nat} {mi mi1 : Ev → Out (List D)} {g g1 : Ev → D → Option Ev} {t t1 : TG} {mt mt1 : Ev → Out Bool} {me : Ev → Out D} (k : knd S i = 0) (hc : X.calm = true) (hN : X.N.Nodup) (hy : X.N[i]? = some y) (hyl : X.env.scope.names.lookup y = some .local)
    (hsw : swapsWith (.ListComp elt [⟨tg, iter, ifs, 0⟩, ⟨tg1, iter1, ifs1, 0⟩] scope pos) (some (.Name y py)) spos.line X.env = pure true) (hi : MI X W S tg iter mi) (ok : blkC X.N X.env.scope scope oS = true) (hv : (oS.map (·.2)).all (fun i => knd S i == 0) = true) (hs : vs1.all (fun i => (oS.map (·.2)).contains i) = true)
    (hg : ∀ (s : Shared) (H : Hp) (C : Addr) (cl : List (Str × Addr)) (fp : List Addr), MG (X.blk s H scope (compEnvC scope cl C X.env) fp) S tg t (oS.map (·.2)) g)
    (ht : ∀ (s : Shared) (H : Hp) (C : Addr) (cl : List (Str × Addr)) (fp : List Addr), MTs (X.blk s H scope (compEnvC scope cl C X.env) fp) W0 S ifs mt)
    (hi1 : ∀ (s : Shared) (H : Hp) (C : Addr) (cl : List (Str × Addr)) (fp : List Addr), MI (X.blk s H scope (compEnvC scope cl C X.env) fp) W0 S tg1 iter1 mi1)
    (hg1 : ∀ (s : Shared) (H : Hp) (C : Addr) (cl : List (Str × Addr)) (fp : List Addr), MG (X.blk s H scope (compEnvC scope cl C X.env) fp) S tg1 t1 vs1 g1)
    (ht1 : ∀ (s : Shared) (H : Hp) (C : Addr) (cl : List (Str × Addr)) (fp : List Addr), MTs (X.blk s H scope (compEnvC scope cl C X.env) fp) W0 S ifs1 mt1)
    (he : ∀ (s : Shared) (H : Hp) (C : Addr) (cl : List (Str × Addr)) (fp : List Addr), ME (X.blk s H scope (compEnvC scope cl C X.env) fp) W0 S elt me) (s0 : Shared := X.s_0) (hf : ∀ x, foldedSetIterable iter X.env x = pure x := by intro _; rfl) (hf1 : ∀ env x, foldedSetIterable iter1 env x = pure x := by intro _ _; rfl) :
    MS X W S (.Assign [.Name y py] (.ListComp elt [⟨tg, iter, ifs, 0⟩, ⟨tg1, iter1, ifs1, 0⟩] scope pos) spos) (mSet i (mLst (mLc2 mi g mt mi1 g1 mt1 me (oS.map (·.2)) vs1))) := by
  obtain ⟨w, pw, qw⟩ := hi.ex
  have hv' : ∀ i ∈ oS.map (·.2), knd S i = 0 := fun i hi => by
    have := List.all_eq_true.mp hv i hi
    simpa using this
  have hs' : ∀ i ∈ vs1, i ∈ oS.map (·.2) := fun i hi => by
    have := List.all_eq_true.mp hs i hi
    simpa using this
  refine ⟨_, ps_setLc2 (te := tME X.K X.mg W0 S me) (tt := tMT X.K X.mg W0 S mt) (tt1 := tMT X.K X.mg W0 S mt1) (wi1 := tMI X.K X.mg W0 S mi1) hc hN hy hyl hsw pw (blkOk_by ok) hs' (fun s H C cl fp => (hg s H C cl fp).pg) (fun s H C cl fp => (ht s H C cl fp).run) (fun s H C cl fp => (hi1 s H C cl fp).run) (fun s H C cl fp => (hg1 s H C cl fp).pg) (fun s H C cl fp => (ht1 s H C cl fp).run) (fun s H C cl fp => (he s H C cl fp).run) hf hf1, fun B F H σ ρ D I h => ?_⟩
  refine lc2_all hv' hs' hg hg1 qw s0 I ((Sat.bind (Sat.bind h)).mono (fun ds ρ1 h1 => ?_) fun _ _ z => XSo.ex z)
  exact LKo.ofE fun F' H' v I' s' r' => h1 F' H' _ (I'.setSh k r') s'
end
theorem MG.more {X : Cx} {S : Sg} {tg : Expr} {t : TG} {vs us : List Nat} {g : Ev → D → Option Ev} (h : MG X S tg t us g) (hs : us.all (fun i => vs.contains i) = true := by rfl) : MG X S tg t vs g := by
  have hs' : ∀ i ∈ us, i ∈ vs := fun i hi => by
    have := List.all_eq_true.mp hs i hi
    simpa using this
  refine ⟨h.pg, fun B F H σ ρ v d ρ1 Q I r e k => h.ok B F H σ ρ v d ρ1 Q I r e fun σ' I' w => k σ' I' ?_⟩
  rw [← wipe_sub hs', w, wipe_sub hs']
end MW
namespace MW
open PySem PySem.Spec PyProof.Rows L2
def spTop (K : Fg) : Sp := fun vs H Q _ => ∃ (a : Addr) (ns : List Int), vs = [.ref a] ∧ SqL K H a (ns.map V.int) ∧ ns.length ≤ 63 ∧ ∀ H', Q (.bl true) H'
def noLst (K : Fg) : Bool := K.all fun p => !(p.2.cls == Value.type "list")
theorem lookup_all {K : Fg} {f : Addr × Obj → Bool} (h : K.all f = true) : ∀ {a : Addr} {o : Obj}, K.lookup a = some o → f (a, o) = true := by
  induction K with
  | nil => intro a o e; cases e
  | cons p K ih =>
    obtain ⟨b, u⟩ := p
    intro a o e
    rw [List.all_cons, Bool.and_eq_true] at h
    rw [List.lookup_cons] at e
    split at e
    · rename_i q
      cases e
      rw [eq_of_beq q]; exact h.1
    · exact ih h.2 e
theorem top_of {K : Fg} {mg : Str → Option Value} {m : List D → Out D} (noL : noLst K = true) (hm : ∀ ns : List Int, ns.length ≤ 63 → ∃ zs, m [.list (ns.map PyData.int)] = .ok (.bool true) zs) : ∀ vs H Q E, spTop K vs H Q E → spM K mg [false] m vs H Q E := by
  rintro vs H Q E ⟨a, ns, rfl, hS, hl, q⟩
  obtain ⟨zs, e⟩ := hm ns hl
  rcases hS with hS | ⟨o, its, n, hk, hc, _⟩
  · have r : ∀ ms : List Int, RpL K H (ms.map V.int) (ms.map PyData.int) := by
      intro ms
      induction ms with
      | nil => exact .nil
      | cons x ms ih => exact .cons (.int x) ih
    refine ⟨⟨fun _ => False, fun _ => False, H, H, [some (.ref a)], []⟩, H, [.list (ns.map .int)], rfl, ⟨rfl, Same.refl _, ⟨Same.refl _, fun _ _ e _ => e, fun _ e => e, fun _ _ e => .inl e, (nofun : ∀ p ∈ ([] : List NdefX.NTab), _), (nofun : ∀ p ∈ ([] : List NdefX.NTab), _), (nofun : ∀ p ∈ ([] : List NdefX.NTab), _)⟩, fun i d e k => ?_, fun i d e k => ?_, fun i j b h1 h2 => ?_, fun i d e k => ?_, fun _ _ _ => rfl, rfl⟩, ?_⟩
    · cases i with
      | zero =>
        have : d = .list (ns.map .int) := (Option.some.inj (Option.some.inj e)).symm
        subst this
        exact ⟨_, rfl, .lst hS (r ns)⟩
      | succ i => cases e
    · cases i with
      | zero => cases k
      | succ i => cases e
    · obtain ⟨k, ⟨d, e⟩, _⟩ := h1
      cases i with
      | zero => cases k
      | succ i => cases e
    · cases i with
      | zero => cases k
      | succ i => cases e
    · rw [e]
      intro F' H' v _ _ rv
      cases rv
      exact q H'
  · have := lookup_all noL hk
    simp only [hc] at this
    cases this
/-- behind the program's top: the script alone is known, and no repr is under way -/
theorem walk_G {l : PySem.W.OpenLaw} {k : Nat} {q : Program} {loose : List Str} {XP : (Str → Option Value) → Heap → Prop} {YP : World → Heap → Prop} {d : DefRec} {K : Params → Fg} {x : Str}
    (hn : l.most = some 63) (hdf : d.params.defaults = []) (hr : Room k callerA) (hY : ∀ (w : World) (h : Heap), YP w h → (K w.params).In h) (noL : ∀ w : World, noLst (K w.params) = true)
    (F : ∀ (w : World) (mg : Str → Option Value) (fa : Addr) (h : Heap), (K w.params).In h → h.Ns mainGlobals mg → mg d.name = some (.ref fa) →
      ∃ fd : FuncData, (∀ (s : Shared) (u : Value), BindsTo s fd ⟨[u], []⟩ [(x, u)]) ∧ ∀ base : Heap, (K w.params).In base → base.Ns mainGlobals mg → FnG l.prog w (K w.params) mg base k fa fd [x] (spTop (K w.params))) :
    PySem.W.WalkO q loose XP YP l.row.toRowW d [] (fun f vs => PySem.call f vs) := by
  apply Att.attach_call hn hdf
  intro w s₀ s₁ mg mb fa o pm cd doc a vs ns G Y ho hd hcd hmg hobj hints hlen hg
  have hK : (K w.params).In s₁.heap := hY w _ Y
  obtain ⟨fd, bd, hF⟩ := F w mg fa _ hK G.T.g hmg
  let ob : Obj := { cls := .type "list", data := .seq vs.toArray }
  let ho1 : HO := .frz ob (.lst (ns.map V.int))
  let H : Hp := fun b => if b = a then some ho1 else none
  have hself : H a = some ho1 := if_pos rfl
  have hothers : ∀ b, b ≠ a → H b = none := fun b hb => if_neg hb
  have aK : ∀ {b u}, (K w.params).lookup b = some u → b ≠ a := fun {b u} e z => by
    subst z
    have e1 := hK _ _ e
    rw [hobj] at e1
    cases e1
    have := lookup_all (noL w) e
    simp at this
  have good : HOk l.prog w H s₁.heap := fun b u e => by
    by_cases hb : b = a
    · subst hb
      rw [hself] at e
      cases e
      have sz := sizeLine_eq
      exact ⟨hobj, by rw [List.length_map]; omega, vs, _, vals_ints hints, hobj⟩
    · rw [hothers b hb] at e; cases e
  have see : ∀ {b u}, s₁.heap.get? b = some u → b ≠ a → (hidT s₁.heap H).get? b = some u := fun {b u} e hb => hidT_get e (hothers b hb)
  have names : ∀ {b : Addr} {m : Str → Option Value}, s₁.heap.Ns b m → (hidT s₁.heap H).Ns b m := by
    rintro b m ⟨u, es, ep, e, hdt, r⟩
    refine ⟨u, es, ep, see e ?_, hdt, r⟩
    intro hb
    subst hb
    rw [hobj] at e
    cases e
    cases hdt
  have kin : (K w.params).In (hidT s₁.heap H) := fun b u e => see (hK b u e) (aK e)
  obtain ⟨mc, h1, h2⟩ := G.T.nolimit
  have md : Mod (K w.params) mg (hidT s₁.heap H) := ⟨kin, names G.T.g, ⟨mb, names G.T.b, G.T.builtins⟩, mc, names h1, h2⟩
  have e0 : Env0 l.prog w (K w.params) mg (hidT s₁.heap H) callerA [] s₁ H :=
    { frames := rfl, mod := md, bs := fun b u e => of_hidT e, bsz := Nat.le_of_eq (hidT_size _ _), funs := trivial, frf := fun b hb => absurd (show b ∈ ([] : List Addr) from hb) (by simp), hok := good, bare := .of_eq hg }
  have hS : SqL (K w.params) H a (ns.map V.int) := .inl (.inr ⟨ob, hself⟩)
  have run := (hF _ kin (names G.T.g)).run callerA [] s₁ H ⟨[.ref a], []⟩ [.ref a] [.ref a] (fun v _ => v = .bl true) (fun _ _ _ => False) ⟨hr, fun _ => rfl⟩ e0 (bd s₁ (.ref a)) (.cons rfl .nil) ⟨a, ns, rfl, hS, hlen, fun _ => rfl⟩
  apply codeAny_mono run
  intro r s' hq
  match r, hq with
  | .error _, ⟨_, _, _, _, _, _, _, _, _, _, _, _, z⟩ => exact z.elim
  | .ok .next, hq => exact hq.elim
  | .ok .brk, hq => exact hq.elim
  | .ok .cont, hq => exact hq.elim
  | .ok (.ret u), ⟨v, H', os, bare, un, hok', ru, qv⟩ =>
    have qv : v = .bl true := qv
    subst qv
    obtain rfl : u = Value.bool true := ru
    refine ⟨rfl, OldK.of_keep fun b u e => ?_, os, bare⟩
    by_cases hb : b = a
    · subst hb
      obtain ⟨e1, _⟩ := hok' b _ (un.frzs b ob _ hself)
      rw [hobj] at e
      cases e
      exact e1
    · exact un.keep b u e (hothers b hb) (fun z => by cases z) (fun z => by cases z)
end MW
namespace MW
open PySem
def Ok {α : Type} (o : Out α) (P : α → Ev → Prop) : Prop := match o with
  | .ok a ρ => P a ρ
  | _ => False
theorem Ok.mono {α : Type} {o : Out α} {P Q : α → Ev → Prop} (h : Ok o P) (k : ∀ a ρ, P a ρ → Q a ρ) : Ok o Q := by
  cases o with
  | ok a ρ => exact k a ρ h
  | err c ρ => exact h
  | bad => exact h
theorem Ok.eq {α : Type} {o : Out α} {P : α → Ev → Prop} (h : Ok o P) : ∃ a ρ, o = .ok a ρ ∧ P a ρ := by
  cases o with
  | ok a ρ => exact ⟨a, ρ, rfl, h⟩
  | err c ρ => exact h.elim
  | bad => exact h.elim
theorem ok_bind {α β : Type} {o : Out α} {f : α → Ev → Out β} {P : β → Ev → Prop} (h : Ok o fun a ρ => Ok (f a ρ) P) : Ok (o.bind f) P := by
  cases o with
  | ok a ρ => exact h
  | err c ρ => exact h
  | bad => exact h
theorem ok_of {α : Type} {x : Option α} {a : α} {ρ : Ev} {P : α → Ev → Prop} (e : x = some a) (h : P a ρ) : Ok (Out.of x ρ) P := by subst e; exact h
theorem ok_noE {α : Type} {o : Out α} {P : α → Ev → Prop} (h : Ok o P) : Ok (noE o) P := by
  cases o with
  | ok a ρ => exact h
  | err c ρ => exact h
  | bad => exact h
section
variable {ρ : Ev} {P : D → Ev → Prop} {PL : List D → Ev → Prop} {PB : Bool → Ev → Prop} {PF : Fl → Ev → Prop} {d : D} {i : Nat} {m ma mb mc mk : Ev → Out D} {ms mr mi : Ev → Out (List D)} {mt nt : Ev → Out Bool} {ma' mb' : Ev → Out Fl} {g g2 : D → D → Option D} {b b2 : D → D → Option Bool}
/-- where a statement ends, and what is still to be done -/
def Then (n : Ev → Out Fl) (P : Fl → Ev → Prop) : Fl → Ev → Prop
  | .nx, ρ => Ok (n ρ) P
  | .bk, ρ => P .bk ρ
  | .ct, ρ => P .ct ρ
  | .rt d, ρ => P (.rt d) ρ
theorem ok_seq {m n : Ev → Out Fl} (h : Ok (m ρ) (Then n PF)) : Ok (mSeq m n ρ) PF := ok_bind (h.mono fun fl ρ1 k => by cases fl <;> exact k)
theorem then_nx {n : Ev → Out Fl} (h : Ok (n ρ) PF) : Then n PF .nx ρ := h
theorem then_rt {n : Ev → Out Fl} (h : PF (.rt d) ρ) : Then n PF (.rt d) ρ := h
theorem ok_next (h : PF .nx ρ) : Ok (mNext ρ) PF := h
theorem ok_ret (h : Ok (m ρ) fun d ρ1 => PF (.rt d) ρ1) : Ok (mRet m ρ) PF := ok_bind h
theorem ok_set (h : Ok (m ρ) fun d ρ1 => PF .nx (ρ1.set i (some d))) : Ok (mSet i m ρ) PF := ok_bind h
theorem ok_setL (h : Ok (ms ρ) fun ds ρ1 => PF .nx (ρ1.set i (some (.list ds)))) : Ok (mSetL i ms ρ) PF := ok_bind h
theorem ok_drop (h : Ok (m ρ) fun _ ρ1 => PF .nx ρ1) : Ok (mDrop m ρ) PF := ok_bind h
theorem ok_ifS {n1 n2 : Ev → Out Fl} (h : Ok (mt ρ) fun b ρ1 => if b = true then Ok (n1 ρ1) PF else Ok (n2 ρ1) PF) : Ok (mIfS mt n1 n2 ρ) PF := ok_bind (h.mono fun b ρ1 k => by cases b <;> exact k)
theorem ok_if (h : Ok (mt ρ) fun b ρ1 => if b = true then Ok (ma ρ1) P else Ok (mb ρ1) P) : Ok (mIf mt ma mb ρ) P := ok_bind (h.mono fun b ρ1 k => by cases b <;> exact k)
theorem ok_var (e : rd ρ i = some d) (h : P d ρ) : Ok (mVar i ρ) P := ok_of e h
theorem ok_c (h : P d ρ) : Ok (mC d ρ) P := h
theorem ok_bin (h : Ok (ma ρ) fun d ρ1 => Ok (mb ρ1) fun e ρ2 => ∃ z, g d e = some z ∧ P z ρ2) : Ok (mBin g ma mb ρ) P := ok_bind (h.mono fun d ρ1 k => ok_bind (k.mono fun e ρ2 ⟨z, e1, k2⟩ => ok_of e1 k2))
theorem ok_un {g : D → Option D} (h : Ok (ma ρ) fun d ρ1 => ∃ z, g d = some z ∧ P z ρ1) : Ok (mUn g ma ρ) P := ok_bind (h.mono fun d ρ1 ⟨z, e1, k2⟩ => ok_of e1 k2)
theorem ok_ownBin (e : rd ρ i = some d) (h : Ok (mb ρ) fun x ρ2 => ∃ y, rd ρ2 i = some y ∧ ∃ z, g y x = some z ∧ P z ρ2) : Ok (mOwnBin g i mb ρ) P := ok_bind (ok_of e (ok_bind (h.mono fun x ρ2 ⟨y, e1, z, e2, k⟩ => ok_bind (ok_of e1 (ok_of e2 k)))))
theorem ok_test (h : Ok (ma ρ) fun d ρ1 => Ok (mb ρ1) fun e ρ2 => ∃ z, b d e = some z ∧ PB z ρ2) : Ok (mTest b ma mb ρ) PB := ok_bind (h.mono fun d ρ1 k => ok_bind (k.mono fun e ρ2 ⟨z, e1, k2⟩ => ok_of e1 k2))
theorem ok_tru (h : Ok (ma ρ) fun d ρ1 => ∃ z, truth d = some z ∧ PB z ρ1) : Ok (mTru ma ρ) PB := ok_bind (h.mono fun d ρ1 ⟨z, e1, k2⟩ => ok_of e1 k2)
theorem ok_notB (h : Ok (mt ρ) fun b ρ1 => PB (!b) ρ1) : Ok (mNotB mt ρ) PB := ok_bind h
theorem ok_ofB (h : Ok (mt ρ) fun b ρ1 => P (.bool b) ρ1) : Ok (mOfB mt ρ) P := ok_bind h
theorem ok_andB (h : Ok (mt ρ) fun b ρ1 => if b = true then Ok (nt ρ1) PB else PB false ρ1) : Ok (mAndB mt nt ρ) PB := ok_bind (h.mono fun b ρ1 k => by cases b <;> exact k)
theorem ok_orB (h : Ok (mt ρ) fun b ρ1 => if b = true then PB true ρ1 else Ok (nt ρ1) PB) : Ok (mOrB mt nt ρ) PB := ok_bind (h.mono fun b ρ1 k => by cases b <;> exact k)
theorem ok_andV (h : Ok (ma ρ) fun d ρ1 => ∃ z, truth d = some z ∧ if z = true then Ok (mb ρ1) P else P d ρ1) : Ok (mAndV ma mb ρ) P := ok_bind (h.mono fun d ρ1 ⟨z, e, k⟩ => ok_bind (ok_of e (by cases z <;> exact k)))
theorem ok_orV (h : Ok (ma ρ) fun d ρ1 => ∃ z, truth d = some z ∧ if z = true then P d ρ1 else Ok (mb ρ1) P) : Ok (mOrV ma mb ρ) P := ok_bind (h.mono fun d ρ1 ⟨z, e, k⟩ => ok_bind (ok_of e (by cases z <;> exact k)))
theorem ok_chainT (h : Ok (ma ρ) fun d ρ1 => Ok (mb ρ1) fun e ρ2 => ∃ z, b d e = some z ∧ if z = true then Ok (mc ρ2) fun f ρ3 => ∃ y, b2 e f = some y ∧ PB y ρ3 else PB false ρ2) : Ok (mChainT b b2 ma mb mc ρ) PB := by
  refine ok_bind (h.mono fun d ρ1 k => ok_bind (k.mono fun e ρ2 ⟨z, e1, k2⟩ => ?_))
  refine ok_bind (ok_of e1 ?_)
  cases z with
  | true => exact ok_bind (Ok.mono k2 fun f ρ3 ⟨y, e2, k3⟩ => ok_of e2 k3)
  | false => exact k2
theorem ok_nil (h : PL [] ρ) : Ok (mNil ρ) PL := h
theorem ok_cons (h : Ok (ma ρ) fun d ρ1 => Ok (mr ρ1) fun ds ρ2 => PL (d :: ds) ρ2) : Ok (mCons ma mr ρ) PL := ok_bind (h.mono fun d ρ1 k => ok_bind k)
theorem ok_lend (e : rd ρ i = some d) (h : Ok (mr ρ) fun ds ρ2 => PL (.none :: ds) ρ2) : Ok (mLend i mr ρ) PL := ok_bind (ok_of e (ok_bind h))
theorem ok_tup (h : Ok (ms ρ) fun ds ρ1 => P (.tuple ds) ρ1) : Ok (mTup ms ρ) P := ok_bind h
theorem ok_lst (h : Ok (ms ρ) fun ds ρ1 => P (.list ds) ρ1) : Ok (mLst ms ρ) P := ok_bind h
theorem ok_call {g : List D → Option D} (h : Ok (ms ρ) fun ds ρ1 => ∃ z, g ds = some z ∧ P z ρ1) : Ok (mCall g ms ρ) P := ok_bind (h.mono fun d ρ1 ⟨z, e1, k2⟩ => ok_of e1 k2)
theorem ok_callL {g : List D → Option (List D)} (h : Ok (ms ρ) fun ds ρ1 => ∃ z, g ds = some z ∧ PL z ρ1) : Ok (mCallL g ms ρ) PL := ok_bind (h.mono fun d ρ1 ⟨z, e1, k2⟩ => ok_of e1 k2)
theorem ok_callO {g : List D → Option D} {z : D} (e : rd ρ i = some d) (e2 : g [d] = some z) (h : P z ρ) : Ok (mCallO g i ρ) P := ok_bind (ok_of e (ok_of e2 h))
theorem ok_callOL {g : List D → Option (List D)} {z : List D} (e : rd ρ i = some d) (e2 : g [d] = some z) (h : PL z ρ) : Ok (mCallOL g i ρ) PL := ok_bind (ok_of e (ok_of e2 h))
theorem ok_move (e : rd ρ i = some d) (h : P d (ρ.set i none)) : Ok (mMove i ρ) P := ok_bind (ok_of e h)
theorem ok_moveD {S : Sg} (e : rd ρ i = some d) (ha : noAlB S i ρ = true) (h : P d (ρ.set i none)) : Ok (mMoveD S i ρ) P := ok_bind (ok_of e (by
  show Ok (if noAlB S i ρ = true then Out.ok d (ρ.set i none) else .bad) P
  rw [if_pos ha]; exact h))
theorem ok_isD {T : String} (h : Ok (ma ρ) fun d ρ1 => P (.bool (isD T d)) ρ1) : Ok (mIsD T ma ρ) P := ok_bind h
theorem ok_binL {g : D → D → Option (List D)} (h : Ok (ma ρ) fun d ρ1 => Ok (mb ρ1) fun e ρ2 => ∃ z, g d e = some z ∧ PL z ρ2) : Ok (mBinL g ma mb ρ) PL := ok_bind (h.mono fun d ρ1 k => ok_bind (k.mono fun e ρ2 ⟨z, e1, k2⟩ => ok_of e1 k2))
theorem ok_seqD (h : Ok (ma ρ) fun d ρ1 => ∃ z, seqD d = some z ∧ PL z ρ1) : Ok (mSeqD ma ρ) PL := ok_bind (h.mono fun d ρ1 ⟨z, e1, k2⟩ => ok_of e1 k2)
theorem ok_range1 (h : Ok (ms ρ) fun ds ρ1 => ∃ j : Int, ds = [.int j] ∧ (-16777216 ≤ j ∧ j ≤ 16777216) ∧ PL (rangeD 0 j.toNat) ρ1) : Ok (mRange1 ms ρ) PL := ok_bind (h.mono fun ds ρ1 ⟨j, e, hj, k⟩ => by
  subst e
  show Ok (if -16777216 ≤ j ∧ j ≤ 16777216 then Out.ok (rangeD 0 j.toNat) ρ1 else .bad) PL
  rw [if_pos hj]; exact k)
theorem ok_listRg (h : Ok (ma ρ) fun d ρ1 => ∃ j : Int, d = .int j ∧ (-16777216 ≤ j ∧ j ≤ 16777216) ∧ PL (rangeD 0 j.toNat) ρ1) : Ok (mListRg ma ρ) PL := ok_bind (h.mono fun d ρ1 ⟨j, e, hj, k⟩ => by
  subst e
  show Ok (if -16777216 ≤ j ∧ j ≤ 16777216 then Out.ok (rangeD 0 j.toNat) ρ1 else .bad) PL
  rw [if_pos hj]; exact k)
theorem ok_enum (h : Ok (ms ρ) fun ds ρ1 => ∃ xs, (ds = [.list xs] ∨ ds = [.tuple xs]) ∧ PL (enumD xs) ρ1) : Ok (mEnum ms ρ) PL := ok_bind (h.mono fun ds ρ1 ⟨xs, e, k⟩ => by
  rcases e with e | e <;> (subst e; exact k))
theorem ok_upd {f : List D → List D → Option (D × List D)} (e : rd ρ i = some d) (h : Ok (ms ρ) fun as ρ1 => ∃ ds z ds', rd ρ1 i = some (.list ds) ∧ f ds as = some (z, ds') ∧ P z (ρ1.set i (some (.list ds')))) : Ok (mUpd i f ms ρ) P := ok_bind (ok_of e (ok_bind (h.mono fun as ρ1 ⟨ds, z, ds', e1, e2, k⟩ => by
  rw [e1]
  show Ok (match f ds as with | some (d, ds') => Out.ok d (ρ1.set i (some (.list ds'))) | none => .bad) P
  rw [e2]; exact k)))
theorem ok_store (h : Ok (ma ρ) fun z ρ1 => ∃ y, rd ρ1 i = some y ∧ Ok (mk ρ1) fun e ρ2 => ∃ ds j n, rd ρ2 i = some (.list ds) ∧ e = .int j ∧ L2.ixN ds.length j = some n ∧ PF .nx (ρ2.set i (some (.list (ds.set n z))))) : Ok (mStore i ma mk ρ) PF := ok_bind (h.mono fun z ρ1 ⟨y, e0, k⟩ => ok_bind (ok_of e0 (ok_bind (k.mono fun e ρ2 ⟨ds, j, n, e1, e2, e3, k2⟩ => by
  subst e2
  rw [e1]
  show Ok (match L2.ixN ds.length j with | some n => Out.ok Fl.nx (ρ2.set i (some (.list (ds.set n z)))) | none => .bad) PF
  rw [e3]; exact k2))))
theorem ok_callD {f : List D → Out D} {ks : List (Option Nat)} (h : Ok (ms ρ) fun ds ρ1 => ∃ as, resolve ρ1 ks ds = some as ∧ Ok (f as) fun d os => P d (wback ks os ρ1)) : Ok (mCallD f ks ms ρ) P := ok_bind (h.mono fun ds ρ1 ⟨as, e, k⟩ => ok_bind (ok_of e (by
  obtain ⟨d, os, e2, k2⟩ := k.eq
  show Ok (match f as with | .ok d os => Out.ok d (wback ks os ρ1) | .err c os => .err c (wback ks os ρ1) | .bad => .bad) P
  rw [e2]; exact k2)))
theorem ok_callDL {f : List D → Out (List D)} {ks : List (Option Nat)} (h : Ok (ms ρ) fun ds ρ1 => ∃ as, resolve ρ1 ks ds = some as ∧ Ok (f as) fun d os => PL d (wback ks os ρ1)) : Ok (mCallDL f ks ms ρ) PL := ok_bind (h.mono fun ds ρ1 ⟨as, e, k⟩ => ok_bind (ok_of e (by
  obtain ⟨d, os, e2, k2⟩ := k.eq
  show Ok (match f as with | .ok d os => Out.ok d (wback ks os ρ1) | .err c os => .err c (wback ks os ρ1) | .bad => .bad) PL
  rw [e2]; exact k2)))
/-- a def: the body from the arguments, and the lists handed back -/
def DefK (S : Sg) (P : D → Ev → Prop) : Fl → Ev → Prop
  | .nx, ρ => chk S (outs S ρ) = true ∧ P .none (outs S ρ)
  | .rt d, ρ => chk S (outs S ρ) = true ∧ P d (outs S ρ)
  | _, _ => False
theorem defK_rt {S : Sg} (h1 : chk S (outs S ρ) = true) (h2 : P d (outs S ρ)) : DefK S P (.rt d) ρ := ⟨h1, h2⟩
theorem defK_nx {S : Sg} (h1 : chk S (outs S ρ) = true) (h2 : P .none (outs S ρ)) : DefK S P .nx ρ := ⟨h1, h2⟩
theorem ok_def {S : Sg} {n : Nat} {mb : Ev → Out Fl} {ds : List D} {ρ0 : Ev} (h0 : ds.map some ++ List.replicate (n - ds.length) none = ρ0) (h : Ok (mb ρ0) (DefK S P)) : Ok (mDef S n mb ds) P := by
  subst h0
  unfold mDef
  cases e : mb (ds.map some ++ List.replicate (n - ds.length) none) with
  | ok fl ρ =>
    rw [e] at h
    cases fl with
    | nx => obtain ⟨h1, h2⟩ := h; show Ok (if chk S (outs S ρ) = true then _ else _) P; rw [if_pos h1]; exact h2
    | rt d => obtain ⟨h1, h2⟩ := h; show Ok (if chk S (outs S ρ) = true then _ else _) P; rw [if_pos h1]; exact h2
    | bk => exact h.elim
    | ct => exact h.elim
  | err c ρ => rw [e] at h; exact h.elim
  | bad => rw [e] at h; exact h.elim
theorem ok_defL {n : Nat} {me : Ev → Out (List D)} {ds : List D} {ρ0 : Ev} (h0 : ds.map some ++ List.replicate (n - ds.length) none = ρ0) (h : Ok (me ρ0) fun xs _ => PL xs (List.replicate ds.length none)) : Ok (mDefL n me ds) PL := by
  subst h0
  unfold mDefL
  obtain ⟨xs, ρ, e, k⟩ := h.eq
  rw [e]
  exact k
theorem ite_dec {c : Prop} [Decidable c] {A B : Prop} (h1 : c → A) (h2 : ¬ c → B) : if decide c = true then A else B := by
  by_cases h : c
  · rw [if_pos (decide_eq_true h)]; exact h1 h
  · rw [if_neg (by rw [decide_eq_false h]; exact Bool.false_ne_true)]; exact h2 h
theorem ok_for {g : Ev → D → Option Ev} {mb : Ev → Out Fl} (h : Ok (mi ρ) fun items ρ1 => Ok (forM g mb items ρ1) PF) : Ok (mFor mi g mb ρ) PF := ok_bind h
/-- how a turn ends -/
def Turned (I : Ev → Prop) (P : Fl → Ev → Prop) : Fl → Ev → Prop
  | .nx, ρ => I ρ
  | .ct, ρ => I ρ
  | .bk, ρ => P .nx ρ
  | .rt d, ρ => P (.rt d) ρ
theorem for_inv {g : Ev → D → Option Ev} {mb : Ev → Out Fl} (I : Nat → Ev → Prop) : ∀ {items : List D} {ρ : Ev} (k : Nat), I k ρ → (∀ i d ρ, items[i]? = some d → I (k + i) ρ → ∃ ρ', g ρ d = some ρ' ∧ Ok (mb ρ') (Turned (I (k + (i + 1))) PF)) → (∀ ρ, I (k + items.length) ρ → PF .nx ρ) → Ok (forM g mb items ρ) PF
  | [], ρ, k, h0, _, h2 => h2 ρ h0
  | d :: items, ρ, k, h0, h1, h2 => by
    obtain ⟨ρ', e, h⟩ := h1 0 d ρ rfl h0
    unfold forM
    refine ok_bind (ok_of e (ok_bind (h.mono fun fl ρ2 z => ?_)))
    have ih : I (k + 1) ρ2 → Ok (forM g mb items ρ2) PF := fun z => for_inv I (k + 1) z (fun i d ρ e z => by
      have := h1 (i + 1) d ρ e (by rw [show k + (i + 1) = k + 1 + i by omega]; exact z)
      rwa [show k + (i + 1 + 1) = k + 1 + (i + 1) by omega] at this) (fun ρ z => h2 ρ (by rw [List.length_cons, show k + (items.length + 1) = k + 1 + items.length by omega]; exact z))
    cases fl with
    | nx => exact ih z
    | ct => exact ih z
    | bk => exact z
    | rt d => exact z
theorem comp_inv {g : Ev → D → Option Ev} {mt : Ev → Out Bool} {me : Ev → Out D} {vs : List Nat} (J : Nat → List D → Ev → Prop) : ∀ {PL : List D → Ev → Prop} {items : List D} {ρ : Ev} (k : Nat) (acc : List D), J k acc ρ →
    (∀ i d ys ρ, items[i]? = some d → J (k + i) ys ρ → ∃ ρ1, g ρ d = some ρ1 ∧ Ok (mt ρ1) fun b ρ2 => if b = true then Ok (me ρ2) fun y ρ3 => J (k + (i + 1)) (ys ++ [y]) (wipeE ρ3 vs) else J (k + (i + 1)) ys (wipeE ρ2 vs)) →
    (∀ ys ρ, J (k + items.length) (acc ++ ys) ρ → PL ys ρ) → Ok (compM g mt me vs items ρ) PL
  | PL, [], ρ, k, acc, h0, _, h2 => h2 [] ρ (by rw [List.append_nil]; exact h0)
  | PL, d :: items, ρ, k, acc, h0, h1, h2 => by
    obtain ⟨ρ1, e, h⟩ := h1 0 d acc ρ rfl h0
    unfold compM
    refine ok_bind (ok_of e (ok_bind (h.mono fun b ρ2 z => ?_)))
    have h1' : ∀ i d ys ρ, items[i]? = some d → J (k + 1 + i) ys ρ → ∃ ρ1, g ρ d = some ρ1 ∧ Ok (mt ρ1) fun b ρ2 => if b = true then Ok (me ρ2) fun y ρ3 => J (k + 1 + (i + 1)) (ys ++ [y]) (wipeE ρ3 vs) else J (k + 1 + (i + 1)) ys (wipeE ρ2 vs) := fun i d ys ρ e z => by
      have := h1 (i + 1) d ys ρ e (by rw [show k + (i + 1) = k + 1 + i by omega]; exact z)
      rwa [show k + (i + 1 + 1) = k + 1 + (i + 1) by omega] at this
    cases b with
    | true =>
      have z : Ok (me ρ2) fun y ρ3 => J (k + 1) (acc ++ [y]) (wipeE ρ3 vs) := z
      show Ok ((me ρ2).bind fun y ρ3 => (compM g mt me vs items (wipeE ρ3 vs)).bind fun ys ρ4 => .ok (y :: ys) ρ4) PL
      refine ok_bind (z.mono fun y ρ3 z => ok_bind ?_)
      exact comp_inv (PL := fun ys ρ4 => PL (y :: ys) ρ4) J (k + 1) (acc ++ [y]) z h1' (fun ys ρ z => h2 (y :: ys) ρ (by rw [List.length_cons, show k + (items.length + 1) = k + 1 + items.length by omega, show acc ++ y :: ys = acc ++ [y] ++ ys by simp]; exact z))
    | false =>
      have z : J (k + 1) acc (wipeE ρ2 vs) := z
      exact comp_inv J (k + 1) acc z h1' (fun ys ρ z => h2 ys ρ (by rw [List.length_cons, show k + (items.length + 1) = k + 1 + items.length by omega]; exact z))
theorem ok_lc {g : Ev → D → Option Ev} {me : Ev → Out D} {vs : List Nat} (h : Ok (mi ρ) fun items ρ1 => Ok (compM g mt me vs items (wipeE ρ1 vs)) fun ys ρ2 => PL ys (restE ρ1 ρ2 vs)) : Ok (mLc mi g mt me vs ρ) PL := ok_bind (h.mono fun items ρ1 k => ok_bind (ok_noE k))
theorem ok_yes (h : PB true ρ) : Ok (mYes ρ) PB := h
end
end MW
namespace MW
open PySem
theorem gMod_ok {i j : Int} (h : 0 < j) : gMod (.int i) (.int j) = some (.int (i % j)) := if_pos h
theorem gDiv_ok {i j : Int} (h : 0 < j) (h2 : j < 1073741824) : gDiv (.int i) (.int j) = some (.int (i / j)) := if_pos ⟨h, h2⟩
theorem gMul_ok {i j : Int} (h : (-18446744073709551616 < i ∧ i < 18446744073709551616) ∨ (-18446744073709551616 < j ∧ j < 18446744073709551616)) : gMul (.int i) (.int j) = some (.int (i * j)) := if_pos h
theorem gAdd_ok {i j : Int} : gAdd (.int i) (.int j) = some (.int (i + j)) := rfl
theorem gSub_ok {i j : Int} : gSub (.int i) (.int j) = some (.int (i - j)) := rfl
theorem bGt_ok {i j : Int} : bGt (.int i) (.int j) = some (decide (j < i)) := rfl
theorem bLt_ok {i j : Int} : bLt (.int i) (.int j) = some (decide (i < j)) := rfl
theorem bLe_ok {i j : Int} : bLe (.int i) (.int j) = some (decide (i ≤ j)) := rfl
theorem bGe_ok {i j : Int} : bGe (.int i) (.int j) = some (decide (j ≤ i)) := rfl
theorem gLen_ok {ds : List D} : gLen [.list ds] = some (.int ds.length) := rfl
theorem gLenT_ok {ds : List D} : gLen [.tuple ds] = some (.int ds.length) := rfl
theorem gTupleOf_ok {ds : List D} : gTupleOf [.list ds] = some (.tuple ds) := rfl
theorem gIx_ok {ds : List D} {i : Nat} {d : D} (h : ds[i]? = some d) : gIx (.list ds) (.int i) = some d := by
  show L2.atI ds (i : Int) = some d
  exact L2.atI_nat h
theorem gIxT_ok {ds : List D} {i : Nat} {d : D} (h : ds[i]? = some d) : gIx (.tuple ds) (.int i) = some d := by
  show L2.atI ds (i : Int) = some d
  exact L2.atI_nat h
theorem Pen.up {N M : Int} {d : D} : (∃ a b n : Int, d = .list [.int a, .int b, .int n] ∧ 0 ≤ a ∧ 0 ≤ b ∧ b < 1000000007 ∧ 0 ≤ n ∧ n ≤ N) → N ≤ M → ∃ a b n : Int, d = .list [.int a, .int b, .int n] ∧ 0 ≤ a ∧ 0 ≤ b ∧ b < 1000000007 ∧ 0 ≤ n ∧ n ≤ M
  | ⟨a, b, n, e, k1, k2, k3, k4, k5⟩, h => ⟨a, b, n, e, k1, k2, k3, k4, Int.le_trans k5 h⟩
theorem ite_yes {A B : Prop} (h : A) : if true = true then A else B := h
theorem ok_at {α : Type} {m : Ev → Out α} {ρ ρ' : Ev} {P : α → Ev → Prop} (e : ρ = ρ') (h : Ok (m ρ') P) : Ok (m ρ) P := by subst e; exact h
/-- what a draw holds on to -/
def Pen (N : Int) (d : D) : Prop := ∃ a b n : Int, d = .list [.int a, .int b, .int n] ∧ 0 ≤ a ∧ 0 ≤ b ∧ b < 1000000007 ∧ 0 ≤ n ∧ n ≤ N
end MW
local macro_rules | `(tactic| walk_at "mx1") => `(tactic| first
  | with_reducible refine MW.ok_seq ?_ | with_reducible refine MW.then_nx ?_ | with_reducible refine MW.then_rt ?_ | with_reducible refine MW.ok_next ?_ | with_reducible refine MW.ok_ret ?_ | with_reducible refine MW.ok_set ?_ | with_reducible refine MW.ok_setL ?_ | with_reducible refine MW.ok_drop ?_
  | with_reducible refine MW.ok_ifS ?_ | with_reducible refine MW.ok_if ?_ | ((with_reducible apply MW.ok_var); rfl) | with_reducible refine MW.ok_c ?_ | with_reducible refine MW.ok_bin ?_ | with_reducible refine MW.ok_un ?_ | ((with_reducible apply MW.ok_ownBin); rfl) | with_reducible refine MW.ok_test ?_ | with_reducible refine MW.ok_tru ?_
  | with_reducible refine MW.ok_notB ?_ | with_reducible refine MW.ok_ofB ?_ | with_reducible refine MW.ok_andB ?_ | with_reducible refine MW.ok_orB ?_ | with_reducible refine MW.ok_andV ?_ | with_reducible refine MW.ok_orV ?_ | with_reducible refine MW.ok_chainT ?_
  | with_reducible refine MW.ok_nil ?_ | with_reducible refine MW.ok_cons ?_ | ((with_reducible apply MW.ok_lend); rfl) | with_reducible refine MW.ok_tup ?_ | with_reducible refine MW.ok_lst ?_ | with_reducible refine MW.ok_call ?_ | with_reducible refine MW.ok_callL ?_
  | ((with_reducible apply MW.ok_move); rfl) | with_reducible refine MW.ok_isD ?_ | with_reducible refine MW.ok_binL ?_ | with_reducible refine MW.ok_seqD ?_ | with_reducible refine MW.ok_store ?_ | with_reducible refine MW.ok_callD ?_ | with_reducible refine MW.ok_callDL ?_ | with_reducible refine MW.ok_for ?_ | with_reducible refine MW.ok_lc ?_ | with_reducible refine MW.ok_yes ?_ | ((with_reducible apply MW.ok_upd); rfl) | with_reducible refine MW.ok_listRg ?_ | with_reducible refine MW.ok_range1 ?_ | with_reducible refine MW.ok_enum ?_ | with_reducible refine MW.ite_yes ?_ | ((with_reducible apply MW.ok_callO); rfl; rfl))
local macro_rules | `(tactic| walk_at "mv1") => `(tactic| first
  | with_reducible refine ⟨_, MW.gAdd_ok, ?_⟩ | with_reducible refine ⟨_, MW.gSub_ok, ?_⟩ | with_reducible refine ⟨_, MW.bGt_ok, ?_⟩ | with_reducible refine ⟨_, MW.bLt_ok, ?_⟩ | with_reducible refine ⟨_, MW.bLe_ok, ?_⟩ | with_reducible refine ⟨_, MW.bGe_ok, ?_⟩
  | with_reducible refine ⟨_, MW.gLen_ok, ?_⟩ | with_reducible refine ⟨_, MW.gLenT_ok, ?_⟩ | with_reducible refine ⟨_, MW.gTupleOf_ok, ?_⟩ | with_reducible refine ⟨_, MW.gMod_ok (by omega), ?_⟩ | with_reducible refine ⟨_, MW.gDiv_ok (by omega) (by omega), ?_⟩ | with_reducible refine ⟨_, MW.gMul_ok (by omega), ?_⟩
  | (refine ⟨_, _, _, (rfl : MW.rd _ _ = some _), rfl, rfl, ?_⟩) | (refine ⟨_, (rfl : MW.rd _ _ = some _), ?_⟩) | (refine ⟨_, (rfl : MW.gIx _ _ = some _), ?_⟩) | (refine ⟨_, (rfl : MW.resolve _ _ _ = some _), ?_⟩))
local macro_rules | `(tactic| walk_at "mx") => `(tactic| repeat (first | walk_at "mx1" | walk_at "mv1"))
namespace MW
open PySem
theorem ok_setLL {S : Sg} {i : Nat} {ms : Ev → Out (List D)} {ρ : Ev} {PF : Fl → Ev → Prop} (h : Ok (ms ρ) fun ds ρ1 => noAlB S i ρ1 = true ∧ PF .nx (ρ1.set i (some (.list ds)))) : Ok (mSetLL S i ms ρ) PF := ok_bind (h.mono fun ds ρ1 ⟨e, k⟩ => by rw [if_pos e]; exact k)
theorem ok_store2 {i : Nat} {ma : Ev → Out D} {qa qb : Ev → Option D} {ρ : Ev} {PF : Fl → Ev → Prop} (h : Ok (ma ρ) fun z ρ1 => ∃ dss k j n ds m, rd ρ1 i = some (.list dss) ∧ qa ρ1 = some (.int k) ∧ qb ρ1 = some (.int j) ∧ L2.ixN dss.length k = some n ∧ dss[n]? = some (.list ds) ∧ L2.ixN ds.length j = some m ∧ PF .nx (ρ1.set i (some (.list (dss.set n (.list (ds.set m z))))))) : Ok (mStore2 i ma qa qb ρ) PF := ok_bind (h.mono fun z ρ1 ⟨dss, k, j, n, ds, m, e1, e2, e3, e4, e5, e6, kk⟩ => by
  simp only [e1, e2, e3, e4, e5, e6]
  exact kk)
theorem gMul1 (k : Int) (h : k ≤ 100000) (h2 : -100000 ≤ k) (d : D) : lMul (.list [d]) (.int k) = some (List.replicate k.toNat d) := by
  have e : ∀ n, (List.replicate n [d]).flatten = List.replicate n d := by
    intro n
    induction n with
    | zero => rfl
    | succ n ih => rw [List.replicate_succ, List.flatten_cons, ih, List.replicate_succ]; rfl
  show (if k ≤ 100000 ∧ -100000 ≤ k ∧ [d].length ≤ 100 then some (List.replicate k.toNat [d]).flatten else none) = _
  rw [if_pos ⟨h, h2, by simp⟩, e]
abbrev nD (i : Nat) : D := .int (i : Int)
abbrev tD (q : List Nat) : D := .tuple (q.map nD)
theorem pen_le {N M : Int} {d : D} (h : Pen N d) (k : N ≤ M) : Pen M d := Pen.up h k
theorem ixN_ok {n i : Nat} (h : i < n) : L2.ixN n (i : Int) = some i := by
  unfold L2.ixN
  rw [if_pos (by omega), if_pos (by omega), Int.toNat_natCast]
theorem gAddT_ok {xs ys : List D} (h : xs.length + ys.length ≤ 16777216) : gAdd (.tuple xs) (.tuple ys) = some (.tuple (xs ++ ys)) := if_pos h
theorem fApp_ok {ds : List D} {d : D} (h : ds.length < 16777216) : fApp ds [d] = some (.none, ds ++ [d]) := if_pos h
/-- a view: the numbers 0 .. c - 1, each of them there -/
def Vw (v : List Nat) (c : Nat) : Prop := 1 ≤ v.length ∧ v.length ≤ 9 ∧ (1 ≤ c ∧ c ≤ v.length) ∧ (∀ x ∈ v, x < c) ∧ ∀ y, y < c → y ∈ v
theorem nD_at {q : List Nat} {i : Nat} (h : i < q.length) : (q.map nD)[i]? = some (nD q[i]) := by rw [List.getElem?_map, List.getElem?_eq_getElem h]; rfl
theorem canLay_nD : ∀ q : List Nat, PyData.canLayAll0 (q.map nD) = true
  | [] => rfl
  | _ :: q => by simp [PyData.canLayAll0, PyData.canLay0, canLay_nD q]
theorem depth_nD : ∀ q : List Nat, PyData.depthAll (q.map nD) = 0
  | [] => rfl
  | _ :: q => by simp [PyData.depthAll, PyData.depth, depth_nD q]
theorem shaped_tD (q : List Nat) : SeqAt.shaped (tD q) = true := by simp [SeqAt.shaped, PyData.canLay0, PyData.depth, canLay_nD, depth_nD]
theorem shaped_lD (q : List Nat) : SeqAt.shaped (.list (q.map nD)) = true := by simp [SeqAt.shaped, PyData.canLay0, PyData.depth, canLay_nD, depth_nD]
theorem shaped_nD (n : Int) : SeqAt.shaped (.int n) = true := by simp [SeqAt.shaped, PyData.canLay0, PyData.depth]
theorem alike_nD : ∀ a b : List Nat, PySem.W.alikeAll (a.map nD) (b.map nD) = true
  | [], b => by cases b <;> simp [PySem.W.alikeAll]
  | _ :: a, [] => by simp [PySem.W.alikeAll]
  | _ :: a, _ :: b => by simp [PySem.W.alikeAll, PySem.W.alike, alike_nD a b]
theorem intsD_nD : ∀ q : List Nat, intsD (q.map nD) = some (q.map Int.ofNat)
  | [] => rfl
  | x :: q => by
    have ih := intsD_nD q
    unfold intsD at ih ⊢
    rw [List.map_cons, List.mapM_cons, ih]
    rfl
theorem max_view {v : List Nat} {c : Nat} (h : Vw v c) : gMax [tD v] = some (.int ((c : Int) - 1)) := by
  obtain ⟨v1, v2, v3, v4, v5⟩ := h
  show ((intsD (v.map nD)).bind fun ns => if ns = [] then none else some (PyData.int (maxI ns))) = _
  rw [intsD_nD]
  have hne : v.map Int.ofNat ≠ [] := fun e => by
    have z : v = [] := List.map_eq_nil_iff.mp e
    rw [z] at v1
    exact absurd v1 (by simp)
  show (if v.map Int.ofNat = [] then none else some (PyData.int (maxI (v.map Int.ofNat)))) = _
  rw [if_neg hne, ← maxI_eq (xs := v.map Int.ofNat) (m := (c : Int) - 1) ?_ ?_]
  · refine List.mem_map.mpr ⟨c - 1, v5 _ (by omega), ?_⟩
    show ((c - 1 : Nat) : Int) = _
    omega
  · intro y hy
    obtain ⟨x, hx, e⟩ := List.mem_map.mp hy
    have := v4 x hx
    rw [← e]
    show (x : Int) ≤ _
    omega
/-- a table's rows -/
def oD : Option Nat → D
  | none => .none
  | some i => nD i
abbrev rD (r : List (Option Nat)) : D := .tuple (r.map oD)
abbrev lD (r : List (Option Nat)) : D := .list (r.map oD)
abbrev tabD (t : List (List (Option Nat))) : D := .tuple (t.map rD)
def RowOk (n c : Nat) (r : List (Option Nat)) : Prop := r.length = c ∧ ∀ e ∈ r, ∀ i, e = some i → i < n
def Tab (n c : Nat) (t : List (List (Option Nat))) : Prop := t.length = n ∧ ∀ r ∈ t, RowOk n c r
theorem bEq_int (a b : Int) : bEq (.int a) (.int b) = some (a == b) := by
  unfold bEq
  rw [if_pos ⟨shaped_nD a, shaped_nD b⟩]
  simp [PyData.eqv]
theorem bNe_int (a b : Int) : bNe (.int a) (.int b) = some (!(a == b)) := by
  unfold bNe
  rw [if_pos ⟨shaped_nD a, shaped_nD b⟩]
  simp [PyData.eqv]
theorem at_map {α : Type} {f : α → D} {l : List α} {i : Nat} {d : D} (h : (l.map f)[i]? = some d) : ∃ hi : i < l.length, d = f l[i] := by
  obtain ⟨h1, h2⟩ := List.getElem?_eq_some_iff.mp h
  rw [List.length_map] at h1
  rw [List.getElem_map] at h2
  exact ⟨h1, h2.symm⟩
theorem map_at {α : Type} {f : α → D} {l : List α} {i : Nat} (h : i < l.length) : (l.map f)[i]? = some (f l[i]) := by rw [List.getElem?_map, List.getElem?_eq_getElem h]; rfl
end MW
namespace MW
open PySem
def findFrom (f : Nat → Option D) : Nat → Nat → Option D
  | _, 0 => none
  | k, n + 1 => match f k with
    | some r => some r
    | none => findFrom f (k + 1) n
theorem findFrom_congr {f g : Nat → Option D} : ∀ (n k : Nat), (∀ i, k ≤ i → i < k + n → f i = g i) → findFrom f k n = findFrom g k n
  | 0, _, _ => rfl
  | n + 1, k, h => by
    unfold findFrom
    rw [h k (Nat.le_refl _) (by omega), findFrom_congr n (k + 1) fun i h1 h2 => h i (by omega) (by omega)]
theorem findFrom_none : ∀ (n k : Nat), findFrom (fun _ => none) k n = none
  | 0, _ => rfl
  | n + 1, k => findFrom_none n (k + 1)
def Hit (St : Ev → Prop) (x : Option D) (fl : Fl) (ρ : Ev) : Prop := match x with
  | none => (fl = .nx ∨ fl = .ct) ∧ St ρ
  | some r => fl = .rt r
def Hit0 (St : Ev → Prop) (x : Option D) (fl : Fl) (ρ : Ev) : Prop := match x with
  | none => fl = .nx ∧ St ρ
  | some r => fl = .rt r
theorem Hit0.hit {St St' : Ev → Prop} {x : Option D} {fl : Fl} {ρ : Ev} (h : Hit0 St x fl ρ) (k : ∀ ρ, St ρ → St' ρ) : Hit St' x fl ρ := by
  cases x with
  | none => exact ⟨.inl h.1, k _ h.2⟩
  | some r => exact h
theorem for_find {St : Ev → Prop} {f : Nat → Option D} {g : Ev → D → Option Ev} {mb : Ev → Out Fl} : ∀ {items : List D} {ρ : Ev} (k : Nat), St ρ → (∀ i d ρ, items[i]? = some d → St ρ → ∃ ρ', g ρ d = some ρ' ∧ Ok (mb ρ') (Hit St (f (k + i)))) → Ok (forM g mb items ρ) (Hit0 St (findFrom f k items.length))
  | [], ρ, k, h0, _ => ⟨rfl, h0⟩
  | d :: items, ρ, k, h0, h1 => by
    obtain ⟨ρ', e, h⟩ := h1 0 d ρ rfl h0
    unfold forM
    refine ok_bind (ok_of e (ok_bind (h.mono fun fl ρ2 z => ?_)))
    rw [List.length_cons]
    unfold findFrom
    rw [Nat.add_zero] at z
    cases e2 : f k with
    | some r =>
      rw [e2] at z
      have z : fl = .rt r := z
      subst z
      exact rfl
    | none =>
      rw [e2] at z
      obtain ⟨z1, z2⟩ := z
      have ih := for_find (k + 1) (ρ := ρ2) (items := items) (g := g) (mb := mb) (f := f) z2 fun i d ρ e s => by
        have := h1 (i + 1) d ρ e s
        rwa [show k + (i + 1) = k + 1 + i by omega] at this
      rcases z1 with z1 | z1 <;> (subst z1; exact ih)
theorem bNe_oD (a b : Option Nat) : bNe (oD a) (oD b) = some (!(a == b)) := by
  have h : ∀ x : Option Nat, SeqAt.shaped (oD x) = true := fun x => by cases x <;> simp [oD, SeqAt.shaped, PyData.canLay0, PyData.depth]
  unfold bNe
  rw [if_pos ⟨h a, h b⟩]
  have hb : ∀ m n : Nat, ((m : Int) == (n : Int)) = (m == n) := fun m n => by
    by_cases e : m = n
    · subst e; simp
    · rw [beq_eq_false_iff_ne.mpr (show (m : Int) ≠ n by omega), beq_eq_false_iff_ne.mpr e]
  cases a <;> cases b <;> simp [oD, PyData.eqv, hb]
/-- a table's entry -/
def cell (t : List (List (Option Nat))) (s w : Nat) : Option Nat := (t.getD s []).getD w none
theorem enum_at {α : Type} {f : α → D} {l : List α} {i : Nat} {d : D} (h : (enumD (l.map f))[i]? = some d) : ∃ hi : i < l.length, d = .tuple [nD i, f l[i]] := by
  obtain ⟨x, e, rfl⟩ := enumD_get h
  obtain ⟨hi, rfl⟩ := at_map e
  exact ⟨hi, rfl⟩
theorem enum_len {α : Type} {f : α → D} {l : List α} : (enumD (l.map f)).length = l.length := by rw [enumD_len, List.length_map]
theorem cell_at {t : List (List (Option Nat))} {s w : Nat} (hs : s < t.length) (hw : w < t[s].length) : cell t s w = t[s][w] := by
  unfold cell
  simp [List.getD_eq_getElem?_getD, hs, hw]
end MW
namespace MW
open PySem
theorem comp2_inv {g : Ev → D → Option Ev} {mt : Ev → Out Bool} {mi1 : Ev → Out (List D)} {g1 : Ev → D → Option Ev} {mt1 : Ev → Out Bool} {me : Ev → Out D} {vs vs1 : List Nat} (J : Nat → List D → Ev → Prop) : ∀ {PL : List D → Ev → Prop} {items : List D} {ρ : Ev} (k : Nat) (acc : List D), J k acc ρ →
    (∀ i d ys ρ, items[i]? = some d → J (k + i) ys ρ → ∃ ρ1, g ρ d = some ρ1 ∧ Ok (mt ρ1) fun b ρ2 => if b = true then Ok (mi1 ρ2) (fun its ρ3 => its.length ≤ 4096 ∧ Ok (compM g1 mt1 me vs1 its (wipeE ρ3 vs1)) fun zs ρ4 => J (k + (i + 1)) (ys ++ zs) (wipeE ρ4 vs)) else J (k + (i + 1)) ys (wipeE ρ2 vs)) →
    (∀ ys ρ, J (k + items.length) (acc ++ ys) ρ → PL ys ρ) → Ok (compM2 g mt mi1 g1 mt1 me vs vs1 items ρ) PL
  | PL, [], ρ, k, acc, h0, _, h2 => h2 [] ρ (by rw [List.append_nil]; exact h0)
  | PL, d :: items, ρ, k, acc, h0, h1, h2 => by
    obtain ⟨ρ1, e, h⟩ := h1 0 d acc ρ rfl h0
    unfold compM2
    refine ok_bind (ok_of e (ok_bind (h.mono fun b ρ2 z => ?_)))
    have h1' : ∀ i d ys ρ, items[i]? = some d → J (k + 1 + i) ys ρ → ∃ ρ1, g ρ d = some ρ1 ∧ Ok (mt ρ1) fun b ρ2 => if b = true then Ok (mi1 ρ2) (fun its ρ3 => its.length ≤ 4096 ∧ Ok (compM g1 mt1 me vs1 its (wipeE ρ3 vs1)) fun zs ρ4 => J (k + 1 + (i + 1)) (ys ++ zs) (wipeE ρ4 vs)) else J (k + 1 + (i + 1)) ys (wipeE ρ2 vs) := fun i d ys ρ e z => by
      have := h1 (i + 1) d ys ρ e (by rw [show k + (i + 1) = k + 1 + i by omega]; exact z)
      rwa [show k + (i + 1 + 1) = k + 1 + (i + 1) by omega] at this
    cases b with
    | true =>
      have z : Ok (mi1 ρ2) (fun its ρ3 => its.length ≤ 4096 ∧ Ok (compM g1 mt1 me vs1 its (wipeE ρ3 vs1)) fun zs ρ4 => J (k + 1) (acc ++ zs) (wipeE ρ4 vs)) := z
      refine ok_bind (z.mono fun its ρ3 ⟨hl, z⟩ => ?_)
      rw [if_pos hl]
      refine ok_bind (z.mono fun zs ρ4 z => ok_bind ?_)
      exact comp2_inv (PL := fun ys ρ5 => PL (zs ++ ys) ρ5) J (k + 1) (acc ++ zs) z h1' (fun ys ρ z => h2 (zs ++ ys) ρ (by rw [List.length_cons, show k + (items.length + 1) = k + 1 + items.length by omega, ← List.append_assoc]; exact z))
    | false =>
      have z : J (k + 1) acc (wipeE ρ2 vs) := z
      exact comp2_inv J (k + 1) acc z h1' (fun ys ρ z => h2 ys ρ (by rw [List.length_cons, show k + (items.length + 1) = k + 1 + items.length by omega]; exact z))
theorem ok_lc2 {mi : Ev → Out (List D)} {g : Ev → D → Option Ev} {mt : Ev → Out Bool} {mi1 : Ev → Out (List D)} {g1 : Ev → D → Option Ev} {mt1 : Ev → Out Bool} {me : Ev → Out D} {vs vs1 : List Nat} {ρ : Ev} {PL : List D → Ev → Prop} (h : Ok (mi ρ) fun items ρ1 => items.length ≤ 4096 ∧ Ok (compM2 g mt mi1 g1 mt1 me vs vs1 items (wipeE ρ1 vs)) fun ys ρ2 => PL ys (restE ρ1 ρ2 vs)) : Ok (mLc2 mi g mt mi1 g1 mt1 me vs vs1 ρ) PL := ok_bind (h.mono fun items ρ1 ⟨hl, k⟩ => by rw [if_pos hl]; exact ok_bind (ok_noE k))
theorem ok_part {ma : Ev → Out D} {ρ : Ev} {P : Option Int → Ev → Prop} (h : Ok (ma ρ) fun d ρ1 => ∃ i, d = .int i ∧ P (some i) ρ1) : Ok (mPart ma ρ) P := ok_bind (h.mono fun d ρ1 ⟨i, e, k3⟩ => by rw [e]; exact k3)
end MW
namespace MW
open PySem PySem.Spec PyProof.Rows L2
def gIndex (ds : List D) : List D → Option D := fun as => match as with
  | [d] => if SeqAt.shaped d = true ∧ SeqAt.shaped (.list ds) = true then (ds.findIdx? fun z => PyData.eqv z d).map fun j => .int (j : Nat) else none
  | _ => none
end MW
namespace MW
open PySem PySem.Spec PyProof.Rows L2
variable {gq : Bool}
theorem rpL_arg {K : Fg} {σ : Sts} {F : Hp} : ∀ {vs : List V} {ds : List D}, RpL K F vs ds → ArgL K σ F (List.replicate ds.length none) vs ds
  | _, _, .nil => .nil
  | _, _, .cons r h => .val r (rpL_arg h)
theorem resolve_none {ρ : Ev} : ∀ {ds : List D}, resolve ρ (List.replicate ds.length none) ds = some ds
  | [] => rfl
  | d :: ds => by
    show (resolve ρ (List.replicate ds.length none) ds).map (d :: ·) = _
    rw [resolve_none]; rfl
theorem wback_none : ∀ {m : Nat} {zs ρ : Ev}, wback (List.replicate m none) zs ρ = ρ
  | 0, _, _ => by unfold wback; rfl
  | m + 1, [], ρ => by rw [List.replicate_succ]; unfold wback; rfl
  | m + 1, z :: zs, ρ => by rw [List.replicate_succ]; unfold wback; exact wback_none
end MW
namespace MW
open PySem PySem.Spec PyProof.Rows L2
end MW
namespace MW
open PySem PySem.Spec PyProof.Rows L2
variable {gq : Bool}
section
variable {X : Cx}
variable {W : WX} {S : Sg} {e : Expr} {p pos : Pos} {ms : Ev → Out (List D)}
def mIndexO (i : Nat) (ms : Ev → Out (List D)) : Ev → Out D := fun ρ => (Out.of (rd ρ i) ρ).bind fun _ ρ => (ms ρ).bind fun as ρ2 => match rd ρ2 i with
  | some (.list ds) => Out.of (gIndex ds as) ρ2
  | _ => .bad
theorem me_indexO (i : Nat) {x : Str} {p' apos : Pos} {e0 : Expr} (k : knd S i = 1) (hv : PE X (.Name x p') (tVar i)) (hu : X.A.units + 65 < cLine) (ha : MA X W S [e0] ms)
    (hb : attributeBase (.Name x p') "index" X.env (eval (.Name x p') X.env) = eval (.Name x p') X.env := by rfl)
    (hf : ((backTo pos (starEach [e0] X.env)).all (fun x => !x.1) && (backToKw pos (keywordEach [] X.env)).all (fun x => x.1.isSome) && decide (([e0] : List Expr).length + ([] : List Keyword).length + (if ([] : List Keyword).isEmpty then 0 else 1) < 30)) = true := by rfl)
    (hl : (apos.endLine == pos.line) = true := by rfl) (hs : starEach [e0] X.env = (false, eval e0 X.env) :: starEach [] X.env := by rfl) (hp : (backTo pos (starEach [] X.env)).any (·.1) = false := by rfl) :
    ME X W S (.Call (.Attribute (.Name x p') "index" apos) [e0] [] pos) (mIndexO i ms) := by
  obtain ⟨t', pt', k'⟩ := ha.ex
  refine ⟨_, pe_bm PySem.F.plainAttrs_list PySem.F.slot_list_index PySem.F.type_list_index (mt_indexD hu) hv pt' hb hf hl hs hp, fun B F H σ ρ Q I h => ?_⟩
  obtain ⟨d0, e1, h1⟩ := sat_of (Sat.bind h)
  obtain ⟨a, ea, xs0, ds0, _, _, hH0, _⟩ := own_lst I k e1
  refine ⟨_, ea, .inl ⟨rfl, xs0, .inl (.inl hH0)⟩, ?_⟩
  refine k' B F H σ ρ _ I ((Sat.bind h1).mono (fun as ρ2 h2 F2 H2 vs I2 s2 r2 => ?_) fun _ _ z => z)
  split at h2
  · rename_i ds e2
    obtain ⟨z, hz, h3⟩ := sat_of h2
    obtain ⟨a', ea', xs, ds', e3, hF, hH, rr⟩ := own_lst I2 k e2
    rw [ea] at ea'
    cases ea'
    cases e3
    unfold gIndex at hz
    split at hz
    · split at hz
      · rename_i hk
        obtain ⟨j, q1, rfl⟩ := Option.map_eq_some_iff.mp hz
        obtain ⟨hj, q2, q3⟩ := List.findIdx?_eq_some_iff_getElem.mp q1
        cases r2 with
        | cons r2 rr2 =>
          cases rr2
          refine ⟨_, _, _, _, j, _, rfl, rfl, (Rp.lst (.inl hH) (rr.up I2.same)).dp (shaped_lay hk.2), (r2.up I2.same).dp (shaped_lay hk.1), hk.2, hk.1, List.getElem?_eq_getElem hj, q2, fun m z' hm hz' => ?_, h3 F2 H2 _ I2 s2 (.int _)⟩
          obtain ⟨hm2, rfl⟩ := List.getElem?_eq_some_iff.mp hz'
          simpa using q3 m hm
      · cases hz
    · cases hz
  · exact h2.elim
/-- xs[::-1] -/
def gRev : List D → Option (List D)
  | [.list ds] => some ds.reverse
  | _ => none
theorem ml_revO (i : Nat) {x : Str} {p' : Pos} {kk : Nat} {p1 p2 p3 : Pos} (k : knd S i = 1) (hv : PE X (.Name x p') (tVar i)) : ML X W S (.Subscript (.Name x p') (.Slice none none (some (.UnaryOp .USub (.Constant (.int 1) kk p1) p2)) p3) pos) (mCallOL gRev i) := by
  refine ⟨_, pe_revL hv, fun B F H σ ρ Q I h => ?_⟩
  obtain ⟨d, e1, h3⟩ := sat_of (Sat.bind h)
  obtain ⟨z, hz, h4⟩ := sat_of h3
  obtain ⟨a, ea, xs, ds, rfl, hF, hH, r⟩ := own_lst I k e1
  cases hz
  exact ⟨_, ea, _, _, rfl, .inl (.inl hH), fun p hp => LKo.mk h4 I r.rev hp⟩
end
end MW
namespace MW
open PySem PySem.Spec PyProof.Rows L2
section
variable {X : Cx} {W : WX} {S : Sg} {pos : Pos} {vs : List Nat}
theorem mg_twoK {K0 : Fg} (i j : Nat) {x y : Str} {p1 p2 : Pos} {kk : Nat} (e : X.K = K0) (k : knd S i = 0) (k' : knd S j = 0) (hc : X.calm = true) (h1 : PG X (.Name x p1) (gName i)) (h2 : PG X (.Name y p2) (gName j))
    (hs : (assignEach [Expr.Name x p1, Expr.Name y p2] X.env).map (·.2) = assign (.Name x p1) X.env :: (assignEach [Expr.Name y p2] X.env).map (·.2) := by rfl) (hs2 : (assignEach [Expr.Name y p2] X.env).map (·.2) = assign (.Name y p2) X.env :: (assignEach [] X.env).map (·.2) := by rfl)
    (hn : (assignEach [Expr.Name x p1, Expr.Name y p2] X.env).length = 2 := by rfl) (hst : (assignEach [Expr.Name x p1, Expr.Name y p2] X.env).findIdx? (·.1) = none := by rfl) :
    MG X S (.Tuple [.Name x p1, .Name y p2] kk pos) (gTup K0 2 (gCons (gName i) (gCons (gName j) gNil))) [i, j] (gN2 i j) := e ▸ mg_two i j k k' hc h1 h2 hs hs2 hn hst
/-- a, b = x, y -/
def mPar (i j : Nat) (ms : Ev → Out (List D)) : Ev → Out Fl := fun ρ => (ms ρ).bind fun ds ρ1 => match ds with
  | [d, e] => .ok .nx ((ρ1.set i (some d)).set j (some e))
  | _ => .bad
theorem ms_par (i j : Nat) {x y : Str} {a b : Expr} {ms : Ev → Out (List D)} {px py pt : Pos} {kt : Nat} {k2 : Nat} {pt2 : Pos} (k : knd S i = 0) (k' : knd S j = 0) (hc : X.calm = true) (hN : X.N.Nodup) (hi : X.N[i]? = some x) (hj : X.N[j]? = some y) (hij : i ≠ j)
    (hx : X.env.scope.names.lookup x = some .local) (hy : X.env.scope.names.lookup y = some .local) (ha : MA X W S [a, b] ms) (hw : swappedStores [.Tuple [.Name x px, .Name y py] kt pt] (.Tuple [a, b] k2 pt2) X.env = pure (some [x, y]))
    (hs : swapsWithSole [.Tuple [.Name x px, .Name y py] kt pt] (.Tuple [a, b] k2 pt2) pos.line X.env = pure false := by rfl) :
    MS X W S (.Assign [.Tuple [.Name x px, .Name y py] kt pt] (.Tuple [a, b] k2 pt2) pos) (mPar i j ms) := by
  obtain ⟨t, p, q⟩ := ha.ex
  refine ⟨_, ps_par hc hN hi hj hij hx hy p hw hs, fun B F H σ ρ D I h => ?_⟩
  refine q B F H σ ρ _ I ((Sat.bind h).mono (fun ds ρ1 h1 F1 H1 us I1 s1 r1 => ?_) fun _ _ z => XSo.ex z)
  have h1 : Sat (match ds with
    | [d, e] => Out.ok Fl.nx ((ρ1.set i (some d)).set j (some e))
    | _ => .bad) (FKo X.K S B F D) (XSo X W S B F) := h1
  split at h1
  · cases r1 with
    | cons ra rr =>
      cases rr with
      | cons rb rr =>
        cases rr
        exact ⟨_, _, rfl, h1 F1 H1 _ ((I1.setSh k ra).setSh k' rb) s1⟩
  · exact h1.elim
end
def tMSs (K : Fg) (mg : Str → Option Value) (W : WX) (S : Sg) (m : Ev → Out Fl) : TS := fun D σ H => ∃ B F ρ, SInv K S B σ F H ρ ∧ Sat (m ρ) (FKo K S B F D) (fun c ρ' => ∀ F' H' σ' C, SInv K S B σ' F' H' ρ' → Same F F' → mg c = some (.ref C) → W (.ref C) none σ' H')
theorem MSs.run {X : Cx} {W : WX} {S : Sg} {sts : List Stmt} {m : Ev → Out Fl} (h : MSs X W S sts m) : PSs X sts (tMSs X.K X.mg W S m) := by
  obtain ⟨t, p, q⟩ := h.ex
  exact ⟨fun pins s σ H D I ⟨B, F, ρ, J, z⟩ => p.run pins s σ H D I (q B F H σ ρ D J z)⟩
/-- cs: of which classes it is known whether they are caught -/
def mTry (mb : Ev → Out Fl) (cs : List (Str × Bool)) (mh : Ev → Out Fl) : Ev → Out Fl := fun ρ => match mb ρ with
  | .ok fl ρ1 => .ok fl ρ1
  | .err c ρ1 => match cs.lookup c with
    | some true => noE (mh ρ1)
    | some false => .err c ρ1
    | none => .bad
  | .bad => .bad
theorem cs_nil {X : Cx} {C : Value} : ∀ (n : Str) (b : Bool), (n, b) ∈ ([] : List (Str × Bool)) → ∀ A, X.mg n = some (.ref A) → PySem.W.exmOne X.K (.ref A) C = some b := fun _ _ h => by cases h
theorem cs_cons {X : Cx} {C : Value} {x : Str} {A0 : Addr} {b0 : Bool} {cs : List (Str × Bool)} (e : X.mg x = some (.ref A0)) (h : PySem.W.exmOne X.K (.ref A0) C = some b0) (t : ∀ n b, (n, b) ∈ cs → ∀ A, X.mg n = some (.ref A) → PySem.W.exmOne X.K (.ref A) C = some b) : ∀ (n : Str) (b : Bool), (n, b) ∈ (x, b0) :: cs → ∀ A, X.mg n = some (.ref A) → PySem.W.exmOne X.K (.ref A) C = some b := fun n b hm A hA => by
  rcases List.mem_cons.mp hm with z | z
  · cases z
    rw [e] at hA
    cases hA
    exact h
  · exact t n b z A hA
theorem ms_try {X : Cx} {W : WX} {S : Sg} {pos pos' np : Pos} {x : Str} {C : Addr} {body suite : List Stmt} {b₀ : Stmt} {mb mh : Ev → Out Fl} {cs : List (Str × Bool)} (hs : X.stack = X.env :: X.outer) (hf : X.env.frame = some X.env.locals) (hc : Names X x (.ref C)) (tk : Takes X W)
    (hcs : ∀ n b, (n, b) ∈ cs → ∀ A, X.mg n = some (.ref A) → PySem.W.exmOne X.K (.ref A) (.ref C) = some b)
    (hb : ∀ (W' : WX) (pn : List (Addr × Obj)) (xe : Value → Shared → Prop), Takes (X.tr pn xe) W' → PassesOwn (model X.prog X.w) X.A X.env xe → MSs (X.tr pn xe) W' S body mb)
    (hsu : ∀ (a : Addr) (oe : Obj) (cls : Value) (d : Option Addr) (pn : List (Addr × Obj)), Zc cls d oe → (∃ vs, oe.data = .fields vs) → MSs (X.suite a ((a, oe) :: pn)) (fun _ _ _ _ => False) S (b₀ :: suite) mh) :
    MS X W S (.Try body [.ExceptHandler (some (.Name x np)) none (b₀ :: suite) pos'] [] [] pos) (mTry mb cs mh) := by
  refine ⟨_, ps_try_only (tb := fun W' => tMSs X.K X.mg W' S mb) (ts := fun _ _ _ => tMSs X.K X.mg (fun _ _ _ _ => False) S mh) hs hf hc tk (fun W' pn xe t1 t2 => (hb W' pn xe t1 t2).run) (fun a oe cls d pn z1 z2 => (hsu a oe cls d pn z1 z2).run), fun B F H σ ρ D I h => ?_⟩
  refine ⟨B, F, ρ, I, ?_⟩
  unfold mTry at h
  cases e : mb ρ with
  | bad => rw [e] at h; exact h.elim
  | ok fl ρ1 => rw [e] at h; exact h
  | err c ρ1 =>
    rw [e] at h
    intro F' H' σ' A J s hm
    have h : Sat (match cs.lookup c with
      | some true => noE (mh ρ1)
      | some false => .err c ρ1
      | none => .bad) (FKo X.K S B F D) (XSo X W S B F) := h
    cases e2 : cs.lookup c with
    | none => rw [e2] at h; exact h.elim
    | some b =>
      rw [e2] at h
      have hmem : (c, b) ∈ cs := PySem.mem_of_lookup e2
      refine ⟨b, hcs c b hmem A hm, fun hb1 a ha => ?_, fun hb0 => ?_⟩
      · subst hb1
        refine ⟨B, F', ρ1, J, ?_⟩
        have h : Sat (noE (mh ρ1)) (FKo X.K S B F D) (XSo X W S B F) := h
        cases e3 : mh ρ1 with
        | bad => rw [e3] at h; exact h.elim
        | err c ρ2 => rw [e3] at h; exact h.elim
        | ok fl ρ2 => rw [e3] at h; exact FKo.up s h
      · subst hb0
        exact h F' H' σ' A J s hm
end MW
namespace MW
open PySem
theorem comp_filter {α : Type} {g : Ev → D → Option Ev} {mt : Ev → Out Bool} {me : Ev → Out D} {vs : List Nat} {enc : α → D} {ρ0 : Ev} (p : α → Bool) (f : α → D) : ∀ {l : List α}, (∀ x ∈ l, ∃ ρ1, g ρ0 (enc x) = some ρ1 ∧ Ok (mt ρ1) fun b ρ2 => b = p x ∧ if b = true then Ok (me ρ2) (fun z ρ3 => z = f x ∧ wipeE ρ3 vs = ρ0) else wipeE ρ2 vs = ρ0) →
    Ok (compM g mt me vs (l.map enc) ρ0) fun ys ρ => ys = (l.filter p).map f ∧ ρ = ρ0
  | [], _ => ⟨rfl, rfl⟩
  | x :: l, h => by
    obtain ⟨ρ1, e, k⟩ := h x List.mem_cons_self
    have ih := comp_filter p f (l := l) fun y hy => h y (List.mem_cons_of_mem _ hy)
    rw [List.map_cons]
    unfold compM
    refine ok_bind (ok_of e (ok_bind (k.mono fun b ρ2 ⟨hb, z⟩ => ?_)))
    cases b with
    | true =>
      have z : Ok (me ρ2) (fun z ρ3 => z = f x ∧ wipeE ρ3 vs = ρ0) := z
      show Ok ((me ρ2).bind fun y ρ3 => (compM g mt me vs (l.map enc) (wipeE ρ3 vs)).bind fun ys ρ4 => .ok (y :: ys) ρ4) _
      refine ok_bind (z.mono fun y ρ3 ⟨e1, e2⟩ => ok_bind ?_)
      rw [e2]
      refine ih.mono fun ys ρ4 ⟨e3, e4⟩ => ?_
      refine ⟨?_, e4⟩
      rw [List.filter_cons_of_pos hb.symm, List.map_cons, e1, e3]
    | false =>
      have z : wipeE ρ2 vs = ρ0 := z
      show Ok (compM g mt me vs (l.map enc) (wipeE ρ2 vs)) _
      rw [z]
      refine ih.mono fun ys ρ4 ⟨e3, e4⟩ => ⟨?_, e4⟩
      rw [List.filter_cons_of_neg (by rw [← hb]; exact Bool.false_ne_true), e3]
theorem comp_map {α : Type} {g : Ev → D → Option Ev} {me : Ev → Out D} {vs : List Nat} {enc : α → D} {ρ0 : Ev} (f : α → D) {l : List α} (h : ∀ x ∈ l, ∃ ρ1, g ρ0 (enc x) = some ρ1 ∧ Ok (me ρ1) (fun z ρ3 => z = f x ∧ wipeE ρ3 vs = ρ0)) : Ok (compM g mYes me vs (l.map enc) ρ0) fun ys ρ => ys = l.map f ∧ ρ = ρ0 := by
  refine (comp_filter (fun _ => true) f (l := l) fun x hx => ?_).mono fun ys ρ ⟨e1, e2⟩ => ⟨?_, e2⟩
  · obtain ⟨ρ1, e, k⟩ := h x hx
    exact ⟨ρ1, e, rfl, k⟩
  · rw [e1]; congr 1; exact List.filter_eq_self.mpr fun _ _ => rfl
theorem rangeD_nD (n : Nat) : rangeD 0 n = (List.range n).map nD := by
  unfold rangeD
  apply List.map_congr_left
  intro i _
  show PyData.int (0 + (i : Int)) = PyData.int (i : Int)
  rw [Int.zero_add]
theorem enumD_nD {α : Type} (f : α → D) (l : List α) : enumD (l.map f) = l.zipIdx.map fun p => .tuple [nD p.2, f p.1] := by
  apply List.ext_getElem?
  intro i
  unfold enumD
  rw [List.getElem?_zipWith, List.length_map, List.getElem?_map, List.getElem?_map, List.getElem?_zipIdx]
  by_cases hi : i < l.length
  · rw [List.getElem?_range hi, List.getElem?_eq_getElem hi]
    show some (PyData.tuple [nD i, f l[i]]) = some (PyData.tuple [nD (0 + i), f l[i]])
    rw [Nat.zero_add]
  · rw [List.getElem?_eq_none (l := l) (by omega)]
    cases (List.range l.length)[i]? <;> rfl
theorem ok_par {i j : Nat} {ms : Ev → Out (List D)} {ρ : Ev} {PF : Fl → Ev → Prop} (h : Ok (ms ρ) fun ds ρ1 => ∃ d e, ds = [d, e] ∧ PF .nx ((ρ1.set i (some d)).set j (some e))) : Ok (mPar i j ms ρ) PF := ok_bind (h.mono fun ds ρ1 ⟨d, e, e1, k⟩ => by subst e1; exact k)
/-- a body that ends well -/
theorem ok_try {mb mh : Ev → Out Fl} {cs : List (Str × Bool)} {ρ : Ev} {PF : Fl → Ev → Prop} (h : Ok (mb ρ) PF) : Ok (mTry mb cs mh ρ) PF := by
  unfold mTry
  cases e : mb ρ with
  | ok fl ρ1 => rw [e] at h; exact h
  | err c ρ1 => rw [e] at h; exact h.elim
  | bad => rw [e] at h; exact h.elim
theorem ok_indexO {i : Nat} {ms : Ev → Out (List D)} {ρ : Ev} {d : D} {P : D → Ev → Prop} (e : rd ρ i = some d) (h : Ok (ms ρ) fun as ρ1 => ∃ ds z, rd ρ1 i = some (.list ds) ∧ gIndex ds as = some z ∧ P z ρ1) : Ok (mIndexO i ms ρ) P := ok_bind (ok_of e (ok_bind (h.mono fun as ρ1 ⟨ds, z, e1, e2, k⟩ => by rw [e1]; exact ok_of e2 k)))
theorem bIn_nD (n : Nat) (q : List Nat) : bIn (nD n) (.list (q.map nD)) = some (q.contains n) := by
  show (if SeqAt.shaped (nD n) = true ∧ SeqAt.shaped (.list (q.map nD)) = true then some ((q.map nD).any fun z => PyData.eqv z (nD n)) else none) = _
  rw [if_pos ⟨shaped_nD n, shaped_lD q⟩]
  congr 1
  rw [List.any_map, List.contains_eq_any_beq]
  congr 1
  funext x
  show ((x : Int) == (n : Int)) = (n == x)
  by_cases e : n = x
  · subst e; simp
  · rw [beq_eq_false_iff_ne.mpr (show (x : Int) ≠ n by omega), beq_eq_false_iff_ne.mpr e]
theorem bNotIn_nD (n : Nat) (q : List Nat) : bNotIn (nD n) (.list (q.map nD)) = some (!q.contains n) := by
  unfold bNotIn
  rw [bIn_nD]; rfl
theorem bEq_nD (a b : Nat) : bEq (nD a) (nD b) = some (a == b) := by
  rw [bEq_int]
  by_cases e : a = b
  · subst e; simp
  · rw [beq_eq_false_iff_ne.mpr (show (a : Int) ≠ b by omega), beq_eq_false_iff_ne.mpr e]
theorem bNe_nD (a b : Nat) : bNe (nD a) (nD b) = some (!(a == b)) := by
  rw [bNe_int]
  by_cases e : a = b
  · subst e; simp
  · rw [beq_eq_false_iff_ne.mpr (show (a : Int) ≠ b by omega), beq_eq_false_iff_ne.mpr e]
theorem gIndex_nD {q : List Nat} {n : Nat} (h : n ∈ q) : gIndex (q.map nD) [nD n] = some (nD (q.idxOf n)) := by
  show (if SeqAt.shaped (nD n) = true ∧ SeqAt.shaped (.list (q.map nD)) = true then ((q.map nD).findIdx? fun z => PyData.eqv z (nD n)).map fun j => PyData.int (j : Nat) else none) = _
  rw [if_pos ⟨shaped_nD n, shaped_lD q⟩]
  have e : (q.map nD).findIdx? (fun z => PyData.eqv z (nD n)) = some (q.idxOf n) := by
    rw [List.findIdx?_map]
    have : ((fun z => PyData.eqv z (nD n)) ∘ nD) = fun x => x == n := by
      funext x
      show ((x : Int) == (n : Int)) = (x == n)
      by_cases e : x = n
      · subst e; simp
      · rw [beq_eq_false_iff_ne.mpr (show (x : Int) ≠ n by omega), beq_eq_false_iff_ne.mpr e]
    rw [this, List.findIdx?_eq_some_iff_findIdx_eq]
    exact ⟨by rw [List.idxOf_lt_length_iff]; exact h, rfl⟩
  rw [e]; rfl
end MW
namespace MW
open PySem
def Rb (L k : Nat) (d : D) : Prop := d.showable = true ∧ d.hasDict = false ∧ d.depth ≤ k ∧ d.shown.length ≤ L
theorem Rb.up {L L' k k' : Nat} {d : D} (h : Rb L k d) (h1 : L ≤ L') (h2 : k ≤ k') : Rb L' k' d := ⟨h.1, h.2.1, Nat.le_trans h.2.2.1 h2, Nat.le_trans h.2.2.2 h1⟩
theorem shown_all : ∀ {ds : List D} {L : Nat}, (∀ d ∈ ds, d.shown.length ≤ L) → piled (PyData.shownAll ds) ≤ ds.length * (L + 2)
  | [], _, _ => by simp [PyData.shownAll, piled]
  | d :: ds, L, h => by
    have ih := shown_all (ds := ds) (L := L) fun x hx => h x (List.mem_cons_of_mem _ hx)
    have h1 := h d List.mem_cons_self
    have e : piled (PyData.shownAll (d :: ds)) = (d.shown.length + 2) + piled (PyData.shownAll ds) := by
      simp [PyData.shownAll, piled]
    rw [e, List.length_cons, Nat.succ_mul]
    omega
theorem all_of : ∀ {ds : List D} {L k : Nat}, (∀ d ∈ ds, Rb L k d) → PyData.showableAll ds = true ∧ PyData.hasDictAll ds = false ∧ PyData.depthAll ds ≤ k
  | [], _, _, _ => ⟨rfl, rfl, Nat.zero_le _⟩
  | d :: ds, L, k, h => by
    obtain ⟨a, b, c⟩ := all_of (ds := ds) fun x hx => h x (List.mem_cons_of_mem _ hx)
    obtain ⟨a1, b1, c1, _⟩ := h d List.mem_cons_self
    refine ⟨?_, ?_, ?_⟩
    · simp [PyData.showableAll, a, a1]
    · simp [PyData.hasDictAll, b, b1]
    · simp only [PyData.depthAll]; omega
theorem tuple_len (ts : List Str) : (tupleText ts).length ≤ piled ts + 3 := by
  by_cases e : ts = []
  · subst e; decide +kernel
  · have := join_length_add ts e
    unfold tupleText
    rw [Str.length_append, Str.length_append]
    have h1 : ((("(" : String) : Str)).length = 1 := by decide +kernel
    have h2 : (((if ts.length == 1 then ",)" else ")" : String) : Str)).length ≤ 2 := by split <;> decide +kernel
    omega
theorem rb_tuple {ds : List D} {L k n : Nat} (h : ∀ d ∈ ds, Rb L k d) (hn : ds.length ≤ n) : Rb (n * (L + 2) + 3) (k + 1) (.tuple ds) := by
  obtain ⟨a, b, c⟩ := all_of h
  refine ⟨by simpa [PyData.showable] using a, by simpa [PyData.hasDict] using b, by simp only [PyData.depth]; omega, ?_⟩
  simp only [PyData.shown]
  have h1 := tuple_len (PyData.shownAll ds)
  have h2 := shown_all fun d hd => (h d hd).2.2.2
  have h3 : ds.length * (L + 2) ≤ n * (L + 2) := Nat.mul_le_mul_right _ hn
  omega
end MW
namespace MW
open PySem
theorem for_list {α : Type} {enc : α → D} {g : Ev → D → Option Ev} {mb : Ev → Out Fl} {PF : Fl → Ev → Prop} {l : List α} {ρ : Ev} (I : Nat → Ev → Prop) (h0 : I 0 ρ) (h1 : ∀ i (h : i < l.length) ρ, I i ρ → ∃ ρ', g ρ (enc l[i]) = some ρ' ∧ Ok (mb ρ') (Turned (I (i + 1)) PF)) (h2 : ∀ ρ, I l.length ρ → PF .nx ρ) : Ok (forM g mb (l.map enc) ρ) PF := by
  refine for_inv I 0 h0 (fun i d ρ hi k => ?_) fun ρ k => h2 ρ (by rw [List.length_map, Nat.zero_add] at k; exact k)
  obtain ⟨h, rfl⟩ := at_map hi
  rw [Nat.zero_add] at k ⊢
  exact h1 i h ρ k
theorem comp_list {α : Type} {enc : α → D} {g : Ev → D → Option Ev} {mt : Ev → Out Bool} {me : Ev → Out D} {vs : List Nat} {PL : List D → Ev → Prop} {l : List α} {ρ : Ev} (J : Nat → List D → Ev → Prop) (h0 : J 0 [] ρ)
    (h1 : ∀ i (h : i < l.length) ys ρ, J i ys ρ → ∃ ρ1, g ρ (enc l[i]) = some ρ1 ∧ Ok (mt ρ1) fun b ρ2 => if b = true then Ok (me ρ2) fun y ρ3 => J (i + 1) (ys ++ [y]) (wipeE ρ3 vs) else J (i + 1) ys (wipeE ρ2 vs))
    (h2 : ∀ ys ρ, J l.length ys ρ → PL ys ρ) : Ok (compM g mt me vs (l.map enc) ρ) PL := by
  refine comp_inv J 0 [] h0 (fun i d ys ρ hi k => ?_) fun ys ρ k => h2 ys ρ (by rw [List.length_map, Nat.zero_add, List.nil_append] at k; exact k)
  obtain ⟨h, rfl⟩ := at_map hi
  rw [Nat.zero_add] at k ⊢
  exact h1 i h ys ρ k
theorem range_get {n i : Nat} (h : i < (List.range n).length) : (List.range n)[i] = i ∧ i < n := ⟨List.getElem_range h, by simpa using h⟩
end MW
namespace MW
open PySem PySem.Spec PyProof.Rows L2
inductive MHds (X : Cx) (S : Sg) : List ExceptHandler → List (List (Str × Bool) × (Ev → Out Fl)) → List (Value × (Addr → Value → Option Addr → TS)) → Prop
  | nil : MHds X S [] [] []
  | cons {x : Str} {C : Addr} {np pos' : Pos} {b₀ : Stmt} {suite : List Stmt} {cs : List (Str × Bool)} {mh : Ev → Out Fl} {hds : List ExceptHandler} {l : List (List (Str × Bool) × (Ev → Out Fl))} {ts : List (Value × (Addr → Value → Option Addr → TS))} (hc : Names X x (.ref C))
      (hcs : ∀ n b, (n, b) ∈ cs → ∀ A, X.mg n = some (.ref A) → PySem.W.exmOne X.K (.ref A) (.ref C) = some b)
      (hsu : ∀ (a : Addr) (oe : Obj) (cls : Value) (d : Option Addr) (pn : List (Addr × Obj)), Zc cls d oe → (∃ vs, oe.data = .fields vs) → MSs (X.suite a ((a, oe) :: pn)) (fun _ _ _ _ => False) S (b₀ :: suite) mh)
      (r : MHds X S hds l ts) : MHds X S (.ExceptHandler (some (.Name x np)) none (b₀ :: suite) pos' :: hds) ((cs, mh) :: l) ((.ref C, fun _ _ _ => tMSs X.K X.mg (fun _ _ _ _ => False) S mh) :: ts)
section
variable {X : Cx} {W : WX} {S : Sg} {pos : Pos} {hds : List ExceptHandler} {l : List (List (Str × Bool) × (Ev → Out Fl))} {ts : List (Value × (Addr → Value → Option Addr → TS))}
theorem MHds.ok (h : MHds X S hds l ts) : HdsOk X hds ts := by
  induction h with
  | nil => exact .nil
  | cons hc hcs hsu r ih => exact .cons hc (fun a oe cls d pn z1 z2 => (hsu a oe cls d pn z1 z2).run) ih
end
end MW
namespace MW
open PySem PySem.Spec PyProof.Rows L2 LamX NdefX
end MW
namespace MW
open PySem PySem.Spec PyProof.Rows L2 LamX L2H
section
variable {X : Cx} {a D : Addr}
def Grow (H H1 : Hp) : Prop := (∀ b o, H b = some o → H1 b = some o) ∧ ∀ b, H1 b = none → H b = none
theorem Grow.refl (H : Hp) : Grow H H := ⟨fun _ _ e => e, fun _ e => e⟩
theorem Grow.trans {H H1 H2 : Hp} (g : Grow H H1) (h : Grow H1 H2) : Grow H H2 := ⟨fun b o e => h.1 b o (g.1 b o e), fun b e => g.2 b (h.2 b e)⟩
theorem Grow.new {H : Hp} {p : Addr} {o : HO} (hp : H p = none) : Grow H (upd H p o) := ⟨fun b u e => by rw [upd_ne (ne_of_none e hp)]; exact e, fun b e => by
  by_cases hb : b = p
  · rw [hb]; exact hp
  · rw [upd_ne hb] at e; exact e⟩
/-- what slot i holds: a list, or it does not matter -/
def HoldL (σ : Sts) (H : Hp) (i : Nat) : Option (List V) → Prop
  | none => True
  | some vs => ∃ q, σ[i]? = some (some (.ref q)) ∧ H q = some (.lst vs)
theorem HoldL.up {σ σ' : Sts} {H H' : Hp} {i : Nat} {o : Option (List V)} (h : HoldL σ H i o) (e : σ'[i]? = σ[i]?) (g : Grow H H') : HoldL σ' H' i o := by
  cases o with
  | none => trivial
  | some vs => obtain ⟨q, e1, e2⟩ := h; exact ⟨q, e.trans e1, g.1 _ _ e2⟩
end
end MW
namespace MW
open PySem PySem.Spec PyProof.Rows L2 LamX L2H
end MW
namespace MW
open PySem PySem.Spec PyProof.Rows L2 LamX
end MW
namespace MW
open PySem PySem.Spec PyProof.Rows L2 LamX L2H
end MW
namespace MW
open PySem PySem.Spec PyProof.Rows L2
end MW
namespace MW
open PySem PySem.Spec PyProof.Rows L2
/-- a clause's turn, told by what is done with an item that passes its tests -/
def turnG (tg iter : Expr) (ifs : List Expr) (comp : Expr) (k : Nat) (it acc : Value) (env : Env) (body : Sem Unit) : Sem PySem.Fin := do
  standAt iter.pos
  match ← pyNext it with
  | none => pure (.done .next)
  | some v =>
    letOwnedTupleGo tg it v
    assign tg env v
    let mut ok := true
    for c in ifs do
      if ok then ok ← PySem.isTrue c env (eval c env)
    if ok then body
    again (.compLoop comp k it acc env)
abbrev Nv : Value → Shared → Prop := fun _ _ => False
abbrev ifsM (ifs : List Expr) (env : Env) : Sem Bool := forIn ifs true fun c r => if r = true then do let ok ← PySem.isTrue c env (eval c env); pure (ForInStep.yield ok) else pure (ForInStep.yield r)
section
variable {prog : Program} {w : World} {A : Around} {R : Result → Shared → Prop} {s : Shared} {tg iter comp : Expr} {ifs : List Expr} {k : Nat} {it acc : Value} {env : Env} {body : Sem Unit}
/-- how a comprehension's code is run (not so a generator's) -/
def Plain (comp : Expr) : Prop := ∀ (prog : Program) (w : World) (A : Around) (k : Nat) (it acc : Value) (env : Env), A.under (.compLoop comp k it acc env) = A ∧ A.under (.compStart comp k it acc env) = A ∧ (model prog w).den (.compLoop comp k it acc env) = ((compTurn comp k it acc env).onRaise fun x => do noteFrame x env; theTreesLotGoes x) ∧ (model prog w).den (.compStart comp k it acc env) = ((compStart comp k it acc env).onRaise fun x => do noteFrame x env; standAt theWindowsPlace)
theorem plain_set {elt : Expr} {gs : List Comprehension} {sc : Scope} {pos : Pos} : Plain (.SetComp elt gs sc pos) := fun _ _ _ _ _ _ _ => ⟨rfl, rfl, rfl, rfl⟩
theorem plain_dict {kx vx : Expr} {gs : List Comprehension} {sc : Scope} {pos : Pos} : Plain (.DictComp kx vx gs sc pos) := fun _ _ _ _ _ _ _ => ⟨rfl, rfl, rfl, rfl⟩
theorem loopAny (hp : Plain comp) (ht : compTurn comp k it acc env = turnG tg iter ifs comp k it acc env body) (J : Nat → Shared → Prop)
    (step : ∀ n s, J n s → wpAny (model prog w) A (pyNext it) (fun r s1 => match r with
      | none => R (.ok .next) s1
      | some v => wpAny (model prog w) A (letOwnedTupleGo tg it v) (fun _ s2 => wpAny (model prog w) A (assign tg env v) (fun _ s3 => wpAny (model prog w) A (ifsM ifs env) (fun ok s4 =>
          if ok = true then wpAny (model prog w) A body (fun _ s5 => ∃ m, m < n ∧ J m s5) Nv s4 else ∃ m, m < n ∧ J m s4) Nv s3) Nv s2) Nv s1) Nv s)
    (n : Nat) (h : J n s) : codeAny (model prog w) A (.compLoop comp k it acc env) R s := by
  refine codeAny_loop rfl J (fun n s hJ => ?_) n h
  rw [(hp prog w A k it acc env).1, (hp prog w A k it acc env).2.2.1]
  refine wpAny_noted ?_
  rw [ht]
  unfold turnG
  refine wpAny_bind (wpAny_standAt (wpAny_bind (wpAny_mono (step n s hJ) (fun r s1 h1 => ?_) fun _ _ z => z.elim)))
  cases r with
  | none => exact wpAny_pure h1
  | some v =>
    refine wpAny_bind (wpAny_mono h1 (fun _ s2 h2 => wpAny_bind (wpAny_mono h2 (fun _ s3 h3 => wpAny_bind (wpAny_mono h3 (fun ok s4 h4 => ?_) fun _ _ z => z.elim)) fun _ _ z => z.elim)) fun _ _ z => z.elim)
    cases ok with
    | false => exact wpAny_pure ⟨rfl, h4⟩
    | true => exact wpAny_bind (wpAny_mono h4 (fun _ s5 h5 => wpAny_pure ⟨rfl, h5⟩) fun _ _ z => z.elim)
end
section
variable {prog : Program} {w : World} {A : Around} {R : Result → Shared → Prop} {s : Shared} {comp : Expr} {c : Comprehension} {k : Nat} {it acc : Value} {env : Env}
/-- a clause is begun: its iterator is asked for once more, or not -/
theorem startAny (hp : Plain comp) (hcl : (clausesOf comp)[k]? = some c) (ha : c.is_async = 0) (h0 : codeAny (model prog w) A (.compLoop comp k it acc env) R s) (h1 : wpAny (model prog w) A (pyIter it) (fun it' s' => codeAny (model prog w) A (.compLoop comp k it' acc env) R s') Nv s) :
    codeAny (model prog w) A (.compStart comp k it acc env) R s := by
  refine codeAny_of_tree ?_
  rw [(hp prog w A k it acc env).2.1, (hp prog w A k it acc env).2.2.2]
  refine wpAny_notedAt ?_
  unfold compStart
  rw [hcl]
  have e : (Option.elim (some c) false fun x => x.is_async != 0) = false := by
    show (c.is_async != 0) = false
    rw [ha]; rfl
  rw [e]
  show wpAny _ _ (ask >>= _) _ _ s
  refine wpAny_bind (wpAny_askSetting (wpAny_ite ?_))
  split
  · first
      | exact wpAny_bind (wpAny_pure (wpAny_pure ⟨rfl, h0⟩))
      | exact wpAny_pure ⟨rfl, h0⟩
  · refine wpAny_bind (wpAny_rule ?_)
    show wpAny _ _ (standAt c.iter.pos >>= _) _ _ s
    exact wpAny_bind (wpAny_standAt (wpAny_bind (wpAny_mono h1 (fun it' s' h' => wpAny_pure ⟨rfl, h'⟩) fun _ _ z => z.elim)))
end
/-- σ knows what σ0 knows -/
def Kp (σ0 σ : Sts) : Prop := σ0.length = σ.length ∧ ∀ (j : Nat) (v : V), σ0[j]? = some (some v) → σ[j]? = some (some v)
theorem Kp.refl (σ : Sts) : Kp σ σ := ⟨rfl, fun _ _ e => e⟩
theorem Kp.trans {a b c : Sts} (h : Kp a b) (k : Kp b c) : Kp a c := ⟨h.1.trans k.1, fun j v e => k.2 j v (h.2 j v e)⟩
theorem kp_wipe {σ σ2 : Sts} {vs : List Nat} (h : L2.wipe σ2 vs = L2.wipe σ vs) : Kp (L2.wipe σ vs) σ2 := ⟨by rw [← h, wipe_length], fun j v e => by rw [← h] at e; exact (wipe_some e).1⟩
abbrev TBd := Sts → Hp → (Hp → Prop) → Prop
/-- a walk, and what is done at each item that passes -/
def tWalk (J : It) (g : TG) (tt : TT) (tb : TBd) (σ0 : Sts) (H : Hp) (N : Hp → Prop) : Prop := ∃ W : Nat → Nat → Hp → Prop, (∃ m, W 0 m H) ∧ ∀ i m H, W i m H →
  (J.stop i H ∧ N H) ∨ (J.go i H ∧ ∃ Nx : Hp → Prop, (∀ H', Nx H' → ∃ m', m' < m ∧ W (i + 1) m' H') ∧ ∀ x H', J.yld i H x H' → g x σ0 H' fun σ2 H2 => Kp σ0 σ2 ∧ tt σ2 H2 fun b H3 => if b = true then tb σ2 H3 Nx else Nx H3)
def BodyOk (Z : Cx) (σ0 : Sts) (body : Sem Unit) (tb : TBd) : Prop := ∀ (pins : List (Addr × Obj)) (s : Shared) (σ : Sts) (H : Hp) (N : Hp → Prop), Inv Z pins σ H s → Kp σ0 σ → tb σ H N → wpAny (model Z.prog Z.w) Z.A body (fun _ s' => ∃ σ' H', Inv Z pins σ' H' s' ∧ Kp σ0 σ' ∧ N H') Nv s
theorem walkG {Z : Cx} {tg iter comp : Expr} {ifs : List Expr} {k : Nat} {it : Addr} {acc : Value} {body : Sem Unit} {J : It} {fp : List Addr} {tn : Nat → Heap → Prop} {g : TG} {tt : TT} {tb : TBd} {σ0 : Sts} {pins : List (Addr × Obj)} {R : Result → Shared → Prop} {s : Shared} {H : Hp} {N : Hp → Prop}
    (hp : Plain comp) (hx : ∀ e s, Z.xe e s → False) (hc : Z.calm = true) (ht : compTurn comp k (.ref it) acc Z.env = turnG tg iter ifs comp k (.ref it) acc Z.env body) (pg : PG Z tg g) (pt : PTs Z ifs tt) (hb : BodyOk Z σ0 body tb) (T : Turn Z.prog Z.w Z.K tg J fp it tn) (st : tn 0 s.heap)
    (I : Inv Z pins σ0 H s) (hf : ∀ b ∈ fp, FpOk Z pins H b) (w : tWalk J g tt tb σ0 H N) (stop : ∀ s' H', Inv Z pins σ0 H' s' → N H' → R (.ok .next) s') : codeAny (model Z.prog Z.w) Z.A (.compLoop comp k (.ref it) acc Z.env) R s := by
  obtain ⟨W, ⟨m0, w0⟩, turn⟩ := w
  have still : ∀ {H' : Hp}, (∀ b ∈ fp, H' b = none) → ∀ b ∈ fp, FpOk Z pins H' b := fun hn b hb => ⟨hn b hb, (hf b hb).2⟩
  refine loopAny hp ht (fun n s' => ∃ i H', Inv Z pins σ0 H' s' ∧ tn i s'.heap ∧ (∀ b ∈ fp, H' b = none) ∧ W i n H') ?_ m0 ⟨0, H, I, st, fun b hb => (hf b hb).1, w0⟩
  rintro n s1 ⟨i, H1, I1, st1, n1, w1⟩
  rcases turn i n H1 w1 with ⟨hs, q⟩ | ⟨go, Nx, hNx, step⟩
  · refine thnF (T.done Z rfl rfl rfl hc i pins s1 σ0 H1 Nv I1 (still n1) st1 hs) fun r s2 ⟨hr, I2⟩ => ?_
    subst hr
    exact stop _ _ I2 q
  · refine thnF (T.item Z rfl rfl rfl hc i pins s1 σ0 H1 Nv I1 (still n1) st1 go) fun r s2 ⟨u, hr, h2⟩ => ?_
    subst hr
    refine thnF h2 fun _ s3 ⟨x, H3, I3, r3, y3, st3, n3⟩ => ?_
    have P3 := I3.pinned (still n3) (T.obj _ _ st3)
    refine wpAny_mono (pg.run _ s3 _ H3 x u _ P3 r3 (step x H3 y3)) (fun _ s4 ⟨σ4, H4, I4, k4, q4⟩ => ?_) fun e s z => (hx e s z).elim
    refine wpAny_mono (pt.run _ s4 σ4 H4 _ I4 q4) (fun b s5 ⟨H5, I5, q5⟩ => ?_) fun e s z => (hx e s z).elim
    have fin : ∀ {σ' : Sts} {s' : Shared} {H' : Hp}, Inv Z (pins ++ pinsAt fp s3.heap) σ' H' s' → Kp σ0 σ' → Nx H' → ∃ m, m < n ∧ ∃ i H', Inv Z pins σ0 H' s' ∧ tn i s'.heap ∧ (∀ b ∈ fp, H' b = none) ∧ W i m H' := fun {σ' s' H'} I' kp nx => by
      obtain ⟨m', hm, w'⟩ := hNx H' nx
      have held : ∀ b ∈ fp, ∀ o, s3.heap.get? b = some o → s'.heap.get? b = some o ∧ H' b = none := fun b hb o e =>
        have z := I'.pin (b, o) (List.mem_append_right _ (List.mem_append_right _ (mem_pinsAt hb e)))
        ⟨z.1, z.2.1⟩
      refine ⟨m', hm, i + 1, H', I'.unpinned.weak kp.1 kp.2, T.keep _ _ _ st3 fun b hb o e => (held b hb o e).1, fun b hb => ?_, w'⟩
      obtain ⟨o, e, _⟩ := T.obj _ _ st3 b hb
      exact (held b hb o e).2
    cases b with
    | false => exact fin I5 k4 q5
    | true =>
      have q5 : tb σ4 H5 Nx := q5
      show wpAny (model Z.prog Z.w) Z.A body _ _ s5
      exact thnF (hb _ s5 σ4 H5 Nx I5 k4 q5) fun _ s6 ⟨σ6, H6, I6, k6, q6⟩ => fin I6 k6 q6
/-- a comprehension: mk makes the new object o, u0 D is what is known of it at D -/
def tComp (wi : TI) (g : TG) (tt : TT) (tb : Addr → TBd) (u0 : Addr → HO) (vs : List Nat) : TE := fun σ H Q => wi σ H fun J H1 => ∀ D, H1 D = none → tWalk J g tt (tb D) (L2.wipe σ vs) (upd H1 D (u0 D)) fun H' => Q (.ref D) H'
theorem pe_comp {X : Cx} {comp tg iter : Expr} {ifs : List Expr} {rest : List Comprehension} {scope : Scope} {own : List (Str × Nat)} {ipos : Pos} {mk : Sem Value} {o : Obj} {u0 : Addr → HO} {wi : TI} {g : TG} {tt : TT} {tb : Addr → TBd} {body : Addr → Env → Sem Unit}
    (hev : eval comp X.env = comprehension comp scope X.env ipos mk false (eval iter X.env)) (hp : Plain comp) (hcl : clausesOf comp = ⟨tg, iter, ifs, 0⟩ :: rest)
    (hmk : ∀ (A : Around) (E : Value → Shared → Prop) (s : Shared) (Q : Value → Shared → Prop), Q (.ref s.heap.objs.size) { s with heap := s.heap.push o } → wpAny (model X.prog X.w) A mk Q E s)
    (hnew : ∀ (H : Hp) (h : Heap), sysModules < h.objs.size → ObjOk X.prog X.w H (h.push o) h.objs.size (u0 h.objs.size))
    (hc : X.calm = true) (hN : X.N.Nodup) (hi : PI X tg iter wi) (ok : BlkOk X.N X.env.scope scope own)
    (ht : ∀ (it : Value) (D : Addr) (env : Env), compTurn comp 0 it (.ref D) env = turnG tg iter ifs comp 0 it (.ref D) env (body D env))
    (hg : ∀ (s : Shared) (H : Hp) (C : Addr) (cl : List (Str × Addr)) (fp : List Addr), PG (X.blk s H scope (compEnvC scope cl C X.env) fp) tg g)
    (hif : ∀ (s : Shared) (H : Hp) (C : Addr) (cl : List (Str × Addr)) (fp : List Addr), PTs (X.blk s H scope (compEnvC scope cl C X.env) fp) ifs tt)
    (hb : ∀ (s : Shared) (H : Hp) (C : Addr) (cl : List (Str × Addr)) (fp : List Addr) (σ : Sts) (D : Addr), BodyOk (X.blk s H scope (compEnvC scope cl C X.env) fp) (L2.wipe σ (own.map (·.2))) (body D (compEnvC scope cl C X.env)) (tb D))
    (hs : ∀ x, foldedSetIterable iter X.env x = pure x) : PE X comp (tComp wi g tt tb u0 (own.map (·.2))) := by
  refine ⟨fun pins s σ H Q I h => ?_⟩
  rw [hev]
  have free : ∀ y ∈ scope.names, y.2 = .free → ∃ c, X.env.cells.lookup y.1 = some c := fun y hy e => (ok.free y hy e).elim (fun k => I.ok.has _ (.inl k)) fun k => I.ok.has _ (.inr k)
  refine wpAny_comprehension_free (use := none) hcl hs (closure_ok free) ok.kind (fun y hy e => by rw [ok.uniq y hy, e]) (thn (hi.run pins s σ H _ I h) fun xv s1 hx => thn hx fun itv s2 h2 => ?_)
  obtain ⟨it, fp, tn, J, H2, rfl, I2, T, st2, f2, q⟩ := h2
  refine hmk _ _ _ _ (newEnv_comp ?_)
  -- the new object
  have hbig := I2.big
  have q := q s2.heap.objs.size (I2.hok.fresh (Nat.le_refl _))
  have J3 : Inv X pins σ (upd H2 s2.heap.objs.size (u0 s2.heap.objs.size)) { s2 with heap := s2.heap.push o } := I2.laid (t' := s2.toks) (fun b u e => Heap.get?_push_of_some _ e) (Nat.le_refl _) (hnew _ s2.heap hbig)
  have old : ∀ (b : Addr) (u : Obj), s2.heap.get? b = some u → (s2.heap.push o).get? b = some u := fun b u e => Heap.get?_push_of_some _ e
  have low : ∀ b ∈ fp, b < s2.heap.objs.size := fun b hb => let ⟨u, e, _⟩ := T.obj _ _ st2 b hb; Heap.lt_size e
  have more : (s2.heap.push o).objs.size = s2.heap.objs.size + 1 := Heap.size_push ..
  generalize s2.heap.objs.size = D at q J3 low more ⊢
  have F3 : ∀ b ∈ fp, FpOk X pins (upd H2 D (u0 D)) b ∧ b < (s2.heap.push o).objs.size := fun b hb => ⟨⟨(upd_ne (Nat.ne_of_lt (low b hb))).trans (f2 b hb).1, (f2 b hb).2⟩, by rw [more]; exact Nat.lt_succ_of_lt (low b hb)⟩
  have st3 : tn 0 (s2.heap.push o) := T.keep _ _ _ st2 fun b _ u e => old b u e
  generalize upd H2 D (u0 D) = H3 at q J3 F3
  have hs3 : ({ s2 with heap := s2.heap.push o } : Shared).heap = s2.heap.push o := rfl
  generalize ({ s2 with heap := s2.heap.push o } : Shared) = s3 at J3 hs3 ⊢
  rw [← hs3] at st3 F3
  have B4 := block_start J3 ok hN F3
  have st4 : tn 0 (pushCells (s3.heap.push { cls := .type "dict", data := .dict #[] }) scope.names) := T.keep _ _ _ st3 fun b _ u e => pushCells_keeps _ _ _ _ (Heap.get?_push_of_some _ e)
  have pg := hg s3 H3 s3.heap.objs.size (cellsFrom (s3.heap.objs.size + 1) scope.names (cloFrom X.env.cells scope.names [])) fp
  have pt := hif s3 H3 s3.heap.objs.size (cellsFrom (s3.heap.objs.size + 1) scope.names (cloFrom X.env.cells scope.names [])) fp
  have pb := hb s3 H3 s3.heap.objs.size (cellsFrom (s3.heap.objs.size + 1) scope.names (cloFrom X.env.cells scope.names [])) fp σ D
  show codeAny (model X.prog X.w) X.A (.compStart comp 0 (.ref it) (.ref D) (compEnvC scope (cellsFrom (s3.heap.objs.size + 1) scope.names (cloFrom X.env.cells scope.names [])) s3.heap.objs.size X.env)) (compPost (model X.prog X.w) X.A X.xe none _ (.ref D) s3.heap.objs.size) _
  have here : (compEnvC scope (cellsFrom (s3.heap.objs.size + 1) scope.names (cloFrom X.env.cells scope.names [])) s3.heap.objs.size X.env).locals = s3.heap.objs.size := rfl
  generalize compEnvC scope (cellsFrom (s3.heap.objs.size + 1) scope.names (cloFrom X.env.cells scope.names [])) s3.heap.objs.size X.env = ce at B4 pg pt pb here ⊢
  have H4f : ∀ b ∈ fp, FpOk (X.blk s3 H3 scope ce fp) [] H3 b := fun b hb => ⟨(F3 b hb).1.1, (B4.ok.exf b hb).1, B4.ok.exfs b hb, .inl hb, fun x c e => (B4.ok.exf b hb).2 x c e, fun p hp => absurd (show p ∈ ([] : List (Addr × Obj)) ++ [] from hp) (by simp)⟩
  have stop : ∀ (s' : Shared) (H' : Hp), Inv (X.blk s3 H3 scope ce fp) [] (L2.wipe σ (own.map (·.2))) H' s' → Q (.ref D) H' → compPost (model X.prog X.w) X.A X.xe none (EP X pins σ Q) (.ref D) s3.heap.objs.size (.ok .next) s' := fun s' H' I6 hq => by
    have I7 : Inv X pins σ H' s' := J3.call' (ch := fp) I6.os I6.base I6.hok I6.bare fun b hb => ⟨(F3 b hb).1.2.2.2.1, (F3 b hb).1.2.1, (F3 b hb).1.2.2.2.2.1, (F3 b hb).1.2.2.2.2.2⟩
    have nC : H' s3.heap.objs.size = none := by
      have z : H' ce.locals = none := I6.free
      rwa [here] at z
    obtain ⟨m, hn, _⟩ := I6.loc
    have hn : s'.heap.Ns ce.locals m := hn
    rw [here] at hn
    obtain ⟨a0, a1, a2, a3, a4, a5⟩ := J3.fpOk (Nat.le_refl _) nC
    exact ⟨m, hn, fun h2 sb => ⟨.ref D, H', I7.turned (t' := s'.toks) (fun b u hb e => (sb.2 b hb).trans e) a0 a1 a3 a4 a5, rfl, hq⟩⟩
  have loop := walkG (Z := X.blk s3 H3 scope ce fp) hp (fun _ _ z => z) hc (ht _ D ce) pg pt pb T st4 B4 H4f q stop
  exact startAny hp (by rw [hcl]; rfl) rfl loop (T.self X.A 0 _ _ _ st4 loop)
end MW
namespace MW
open PySem PySem.Spec PyProof.Rows L2
/-- held by names that the block does not take over -/
theorem heldW {K : Fg} {S : Sg} {vs : List Nat} {σ : Sts} {H : Hp} {ρ : Ev} {j : Nat} {a : Addr} (hv : ∀ i ∈ vs, knd S i = 0) (h : Held S (L2.wipe σ vs) H (wipeE ρ vs) j a) : Held S σ H ρ j a := by
  obtain ⟨k, ⟨d, e1⟩, c, e2, hq⟩ := h
  have hj : j ∉ vs := fun z => by rw [own_of0 (hv j z)] at k; cases k
  exact ⟨k, ⟨d, (wipeE_at e1).1⟩, c, by rw [MW.wipe_out hj] at e2; exact e2, hq⟩
/-- what any comprehension's walk asks, by the mirrors; Ac: what is known of the object at Dn after the items ys -/
theorem walk_sat {K : Fg} {S : Sg} {mg : Str → Option Value} {vs : List Nat} {g : Ev → D → Option Ev} {t : TG} {mt : Ev → Out Bool} {me : Ev → Out D} {items ys0 : List D} {J : It} {B : Base} {σ : Sts} {F H : Hp} {ρ : Ev} {Fin : Hp → Prop} {e : Str → Ev → Prop} {Dn : Addr} {Ac : Hp → HO → List D → Prop} {tb : TBd} {u0 : HO}
    (hv : ∀ i ∈ vs, knd S i = 0) (hg : ∀ B F H σ ρ v d ρ1 (Q : Sts → Hp → Prop), SInv K S B σ F H ρ → Rp K F v d → g ρ d = some ρ1 → (∀ σ', SInv K S B σ' F H ρ1 → L2.wipe σ' vs = L2.wipe σ vs → Q σ' H) → t v σ H Q)
    (I : SInv K S B σ F H ρ) (wd : WalkD K F J items) (hF : F Dn = none) (hH : H Dn = some u0) (hn0 : ∀ i a, Held S σ H ρ i a → a ≠ Dn) (hup : ∀ F F' u ys, Same F F' → Ac F u ys → Ac F' u ys) (hsf : ∀ F u ys, Ac F u ys → Soft u) (h0 : Ac F u0 ys0)
    (hstep : ∀ (σ5 : Sts) (F4 H4 : Hp) (ρ5 : Ev) (u : HO) (ys : List D) (N : Hp → Prop), ys.length < ys0.length + items.length → SInv K S B σ5 F4 H4 ρ5 → F4 Dn = none → H4 Dn = some u → (∀ i a, Held S σ5 H4 ρ5 i a → a ≠ Dn) → Ac F4 u ys →
      Sat (me ρ5) (fun y ρ7 => ∀ F7 H7 u', SInv K S B σ5 F7 H7 ρ7 → Same F4 F7 → F7 Dn = none → H7 Dn = some u' → (∀ i a, Held S σ5 H7 ρ7 i a → a ≠ Dn) → Ac F7 u' (ys ++ [y]) → N H7) (fun _ _ => False) → tb σ5 H4 N)
    (h : Sat ((noE (compM g mt me vs items (wipeE ρ vs))).bind fun ys ρ2 => Out.ok ys (restE ρ ρ2 vs)) (fun ys ρ' => ∀ F' H' u, SInv K S B σ F' H' ρ' → Same F F' → F' Dn = none → H' Dn = some u → Ac F' u (ys0 ++ ys) → (∀ i a, Held S σ H' ρ' i a → a ≠ Dn) → Fin H') e) :
    tWalk J t (tMT K mg W0 S mt) tb (L2.wipe σ vs) H Fin := by
  have hww : ∀ {σ' : Sts}, L2.wipe σ' vs = L2.wipe (L2.wipe σ vs) vs → L2.wipe σ' vs = L2.wipe σ vs := fun {σ'} h => by
    rw [h]
    refine List.ext_getElem? fun i => ?_
    by_cases hi : i ∈ vs
    · have nn : ∀ (τ : Sts), τ.length = σ.length → ∀ (us : List Nat), i ∈ us → (L2.wipe τ us)[i]? = if i < σ.length then some none else none := by
        intro τ hτ us
        induction us with
        | nil => intro z; cases z
        | cons u us ih =>
          intro z
          show ((L2.wipe τ us).set u none)[i]? = _
          by_cases hu : u = i
          · subst hu
            by_cases hlt : u < σ.length
            · rw [List.getElem?_set_self (by rw [wipe_length, hτ]; exact hlt), if_pos hlt]
            · rw [List.getElem?_eq_none (by rw [List.length_set, wipe_length, hτ]; omega), if_neg hlt]
          · rw [List.getElem?_set_ne hu]
            refine ih ?_
            rcases List.mem_cons.mp z with z | z
            · exact absurd z.symm hu
            · exact z
      rw [nn _ (wipe_length σ vs) vs hi, nn _ rfl vs hi]
    · rw [MW.wipe_out hi]
  let P : Nat → Hp → Prop := fun i H2 => i ≤ items.length ∧ ∃ F2 ρ2 u ys, SInv K S B (L2.wipe σ vs) F2 H2 ρ2 ∧ Same F F2 ∧ F2 Dn = none ∧ H2 Dn = some u ∧ Ac F2 u (ys0 ++ ys) ∧ ys.length ≤ i ∧ (∀ j a, Held S (L2.wipe σ vs) H2 ρ2 j a → a ≠ Dn) ∧
    Sat ((noE (compM g mt me vs (items.drop i) ρ2)).bind fun zs ρ3 => Out.ok (ys ++ zs) (restE ρ ρ3 vs)) (fun ys ρ' => ∀ F' H' u, SInv K S B σ F' H' ρ' → Same F2 F' → F' Dn = none → H' Dn = some u → Ac F' u (ys0 ++ ys) → (∀ i a, Held S σ H' ρ' i a → a ≠ Dn) → Fin H') e
  refine ⟨fun i m H2 => m = items.length - i ∧ P i H2, ⟨_, rfl, Nat.zero_le _, F, wipeE ρ vs, u0, [], I.wipe vs hv, Same.refl _, hF, hH, by rw [List.append_nil]; exact h0, Nat.le_refl _, fun j a hh => hn0 j a (heldW (K := K) hv hh), by simpa using h⟩, ?_⟩
  rintro i m H2 ⟨rfl, hi, F2, ρ2, u, ys, I2, s2, nD, hDn, ra, la, hn, h2⟩
  by_cases hlt : i < items.length
  · refine .inr ⟨wd.goes i H2 hlt (s2.trans I2.same), fun H' => P (i + 1) H', fun H' hP => ⟨items.length - (i + 1), by omega, rfl, hP⟩, fun x H' y => ?_⟩
    have hd : items.drop i = items[i] :: items.drop (i + 1) := List.drop_eq_getElem_cons hlt
    rw [hd] at h2
    have go : ∀ F4 H4, SInv K S B (L2.wipe σ vs) F4 H4 ρ2 → Same F2 F4 → F4 Dn = none → H4 Dn = some u → (∀ j a, Held S (L2.wipe σ vs) H4 ρ2 j a → a ≠ Dn) → Rp K F4 x items[i] → t x (L2.wipe σ vs) H4 fun σ5 H5 => Kp (L2.wipe σ vs) σ5 ∧ tMT K mg W0 S mt σ5 H5 fun b H3 =>
        if b = true then tb σ5 H3 (P (i + 1)) else P (i + 1) H3 := fun F4 H4 I4 s4 n4 d4 hn4 r4 => by
      have h3 := noE_sat (Sat.bind h2) (fun _ _ => False)
      obtain ⟨ρ5, hg5, h5⟩ := sat_of (Sat.bind (show Sat ((Out.of (g ρ2 items[i]) ρ2).bind _) _ _ from h3))
      refine hg _ F4 H4 _ ρ2 x items[i] ρ5 _ I4.into r4 hg5 fun σ5 I5 w5 => ⟨kp_wipe (hww w5), _, F4, ρ5, I5, (Sat.bind h5).mono (fun b ρ6 h6 F6 H6 I6 s6 => ?_) fun _ _ z => z.elim⟩
      have so4 : Soft u := hsf _ _ _ ra
      have d6 : H6 Dn = some u := I6.ext.hs Dn _ d4 (reb_no I4.ext.tb hn4 d4 so4)
      have n6 : F6 Dn = none := by
        cases q : F6 Dn with
        | none => rfl
        | some o =>
          rcases I6.ext.fr Dn o q with z | z | ⟨j, _, z⟩
          · rw [show F4 Dn = some o from z] at n4; cases n4
          · rw [show H4 Dn = none from z] at d4; cases d4
          · exact absurd rfl (hn4 j Dn z)
      have hn6 : ∀ j a, Held S σ5 H6 ρ6 j a → a ≠ Dn := fun j a hh z => by
        subst z
        obtain ⟨_, _, o⟩ := I6.heldAt hh
        rcases o with ⟨z, _⟩ | o
        · exact reb_no I4.ext.tb hn4 d4 so4 z
        · rw [show H4 a = none from o] at d4; cases d4
      have I6 := I4.back I6
      have wiped : ∀ {F7 H7 ρ7}, SInv K S B σ5 F7 H7 ρ7 → SInv K S B (L2.wipe σ vs) F7 H7 (wipeE ρ7 vs) := fun {F7 H7 ρ7} I7 => by
        have := I7.wipe vs hv
        rwa [hww w5] at this
      have heldV : ∀ {H7 ρ7}, (∀ j a, Held S σ5 H7 ρ7 j a → a ≠ Dn) → ∀ j a, Held S (L2.wipe σ vs) H7 (wipeE ρ7 vs) j a → a ≠ Dn := fun {H7 ρ7} hn7 j a hh => hn7 j a (heldW (K := K) (vs := vs) hv (by rw [hww w5]; exact hh))
      cases b with
      | false =>
        refine iteF ⟨hlt, F6, wipeE ρ6 vs, u, ys, wiped I6, (s2.trans s4).trans s6, n6, d6, hup _ _ _ _ (s4.trans s6) ra, by omega, heldV hn6, ?_⟩
        exact noE_bind h6 fun zs ρ7 h7 F' H' v I' s' => h7 F' H' v I' ((s4.trans s6).trans s')
      | true =>
        refine iteT (hstep σ5 F6 H6 ρ6 u (ys0 ++ ys) _ (by rw [List.length_append]; omega) I6 n6 d6 hn6 (hup _ _ _ _ (s4.trans s6) ra) ((Sat.bind h6).mono (fun y ρ7 h7 F7 H7 u' I7 s7 n7 d7 hn7 ac => ?_) fun _ _ z => z))
        refine ⟨hlt, F7, wipeE ρ7 vs, u', ys ++ [y], wiped I7, ((s2.trans s4).trans s6).trans s7, n7, d7, by rw [← List.append_assoc]; exact ac, ?_, heldV hn7, ?_⟩
        · rw [List.length_append]
          show ys.length + 1 ≤ i + 1
          omega
        · refine noE_bind (Sat.bind h7) fun zs ρ8 h8 F' H' v I' s' => ?_
          rw [List.append_assoc]
          exact h8 F' H' v I' (((s4.trans s6).trans s7).trans s')
    rcases wd.yields i H2 x H' items[i] (by simp [hlt]) (s2.trans I2.same) y with ⟨rfl, r⟩ | ⟨T, o, xs, ds, rfl, hT, ho, rfl, r, e⟩
    · exact go F2 H' I2 (Same.refl _) nD hDn hn (r.up s2)
    · have hF : F2 T = none := Same.free I2.same hT
      have sF := same_upd (o := .frz o (.tup xs)) hF
      have hne : Dn ≠ T := ne_of_none hDn hT
      refine go (upd F2 T (.frz o (.tup xs))) _ (I2.newF hT) sF (by rw [upd_ne hne]; exact nD) (by rw [upd_ne hne]; exact hDn) (fun j a hh => hn j a (held_same (fun c ec => by rw [upd_ne (I2.heldNe hT j c (I2.topHeld hh.1 hh.2.1 ec))]) hh)) ?_
      rw [e]
      exact .tup (.inl ⟨o, ho, upd_same⟩) ((r.up s2).up sF)
  · have e : i = items.length := by omega
    subst e
    rw [List.drop_length] at h2
    have h3 : ∀ F' H' u, SInv K S B σ F' H' (restE ρ ρ2 vs) → Same F2 F' → F' Dn = none → H' Dn = some u → Ac F' u (ys0 ++ (ys ++ [])) → (∀ i a, Held S σ H' (restE ρ ρ2 vs) i a → a ≠ Dn) → Fin H' := h2
    rw [List.append_nil] at h3
    refine .inl ⟨wd.stops H2 (s2.trans I2.same), h3 F2 H2 u (I.rest hv (hww rfl) (wipe_length σ vs) s2 I2) (Same.refl _) nD hDn ra fun j a ⟨k, ⟨d, e1⟩, c, e2, hq⟩ => ?_⟩
    have hj : j ∉ vs := fun z => by rw [own_of0 (hv j z)] at k; cases k
    rw [restE_out hj] at e1
    exact hn j a ⟨k, ⟨d, e1⟩, c, by rw [MW.wipe_out hj]; exact e2, hq⟩
/-- what any comprehension's walk asks, by the mirrors; Ac: what is known of the new object after the items ys -/
theorem comp_sat {K : Fg} {S : Sg} {mg : Str → Option Value} {vs : List Nat} {g : Ev → D → Option Ev} {t : TG} {mt : Ev → Out Bool} {me : Ev → Out D} {items : List D} {J : It} {B : Base} {σ : Sts} {F H : Hp} {ρ : Ev} {Fin : Hp → Prop} {e : Str → Ev → Prop} {Dn : Addr} {Ac : Hp → HO → List D → Prop} {tb : TBd} {u0 : HO}
    (hv : ∀ i ∈ vs, knd S i = 0) (hg : ∀ B F H σ ρ v d ρ1 (Q : Sts → Hp → Prop), SInv K S B σ F H ρ → Rp K F v d → g ρ d = some ρ1 → (∀ σ', SInv K S B σ' F H ρ1 → L2.wipe σ' vs = L2.wipe σ vs → Q σ' H) → t v σ H Q)
    (I : SInv K S B σ F H ρ) (wd : WalkD K F J items) (hD : H Dn = none) (hup : ∀ F F' u ys, Same F F' → Ac F u ys → Ac F' u ys) (hsf : ∀ F u ys, Ac F u ys → Soft u) (h0 : Ac F u0 [])
    (hstep : ∀ (B' : Base) (σ5 : Sts) (F4 H4 : Hp) (ρ5 : Ev) (u : HO) (ys : List D) (N : Hp → Prop), SInv K S B' σ5 F4 H4 ρ5 → (∀ F7 H7 ρ7, SInv K S B' σ5 F7 H7 ρ7 → H7 Dn = some u) → Ac F4 u ys → ys.length < items.length →
      Sat (me ρ5) (fun y ρ7 => ∀ F7 H7 u', SInv K S B' σ5 F7 H7 ρ7 → Same F4 F7 → Ac F7 u' (ys ++ [y]) → N (upd H7 Dn u')) (fun _ _ => False) → tb σ5 H4 N)
    (h : Sat ((noE (compM g mt me vs items (wipeE ρ vs))).bind fun ys ρ2 => Out.ok ys (restE ρ ρ2 vs)) (fun ys ρ' => ∀ F' H' u, SInv K S B σ F' H' ρ' → Same F F' → F' Dn = none → H' Dn = some u → Ac F' u ys → B.H Dn = none → (∀ i a, Held S σ H' ρ' i a → a ≠ Dn) → Fin H') e) :
    tWalk J t (tMT K mg W0 S mt) tb (L2.wipe σ vs) (upd H Dn u0) Fin := by
  have hB : B.H Dn = none := I.bnone hD
  refine walk_sat (ys0 := []) hv hg (I.newH hD) wd (Same.free I.same hD) upd_same (fun i a q => I.heldNe hD i a (held_same (fun c ec => by rw [upd_ne (I.heldNe hD i c (I.topHeld q.1 q.2.1 ec))]) q)) hup hsf h0 (fun σ5 F4 H4 ρ5 u ys N hl I4 n4 d4 hn4 ac hh => ?_) (h.mono (fun ys ρ' z F' H' u I' s' n' d' ac hn' => z F' H' u I' s' n' d' ac hB hn') fun _ _ z => z)
  refine hstep _ σ5 F4 H4 ρ5 u ys N I4.into (fun F7 H7 ρ7 I7 => I7.ext.hs Dn _ d4 (reb_no I4.ext.tb hn4 d4 (hsf _ _ _ ac))) ac (by simpa using hl) (hh.mono (fun y ρ7 z F7 H7 u' I7 s7 ac' => ?_) fun _ _ z => z)
  have d7 : H7 Dn = some u := I7.ext.hs Dn _ d4 (reb_no I4.ext.tb hn4 d4 (hsf _ _ _ ac))
  have n7 : F7 Dn = none := by
    cases q : F7 Dn with
    | none => rfl
    | some o =>
      rcases I7.ext.fr Dn o q with z | z | ⟨j, _, z⟩
      · rw [show F4 Dn = some o from z] at n4; cases n4
      · rw [show H4 Dn = none from z] at d4; cases d4
      · exact absurd rfl (hn4 j Dn z)
  have hn7 : ∀ j a, Held S σ5 H7 ρ7 j a → a ≠ Dn := fun j a hh z => by
    obtain ⟨_, _, o⟩ := I7.heldAt hh
    rcases o with ⟨z', _⟩ | o
    · exact reb_no I4.ext.tb hn4 d4 (hsf _ _ _ ac) (z ▸ z')
    · rw [z, ] at o
      rw [show H4 Dn = none from o] at d4; cases d4
  have I7 := I4.back I7
  exact z F7 _ u' (I7.setFree n7 hB hn7 fun o0 e => by rw [d7] at e; cases e; exact hsf _ _ _ ac) s7 n7 upd_same (fun j a q => hn7 j a (held_same (fun c ec => by rw [upd_ne (hn7 j c (I7.topHeld q.1 q.2.1 ec))]) q)) ac'
end MW
namespace MW
open PySem PySem.Spec PyProof.Rows L2
theorem soft_setTO {P : Program} {w : World} {a : Addr} {L : List (Addr × List Int)} : Soft (L2.SetTO P w a L) := soft_ext (a := a) fun h k => by
  obtain ⟨es, ep, t, ⟨o, e1, _, e2⟩, _⟩ := k.ex
  exact ⟨o, es, ep, t, e1, e2⟩
section
variable {X : Cx} {pins : List (Addr × Obj)} {σ : Sts} {H : Hp} {s : Shared} {E : Value → Shared → Prop} {Q : Value → Shared → Prop} {L : List (Addr × List Int)} {a Dn : Addr} {k : List Int}
/-- set.add of a tuple of numbers -/
theorem tup_add (I : Inv X pins σ H s) (hu : X.A.units + 3 < cLine) (hD : H Dn = some (SetTO X.prog X.w Dn L)) (hL : ∀ p ∈ L, SqT X.K H p.1 (p.2.map V.int)) (ha : SqT X.K H a (k.map V.int)) (few : L.length + 1 < 64)
    (h : ∀ L' s', (k ∈ L.map (·.2) → L' = L) → (k ∉ L.map (·.2) → L'.Perm ((a, k) :: L)) → Inv X pins σ (upd H Dn (SetTO X.prog X.w Dn L')) s' → Q .none s') : wpAny (model X.prog X.w) X.A (call (.builtin "set.add") [.ref Dn, .ref a]) Q E s := by
  obtain ⟨es, ep, t, R⟩ := SetT0.full (I.hok Dn _ hD).1 fun p hp => I.isT (hL p hp)
  have hx := I.isT ha
  obtain ⟨o, ho, hex, hd⟩ := R.ob
  refine wpAny_call_entry PySem.F.slot_set_add ⟨o, ho, hex.1⟩ PySem.F.entry_set_add ?_ (PySem.F.args_set_add_2 _ _)
  unfold Builtin.«set.add» Builtin.Frozenset.oneOther
  simp only [List.isEmpty_nil, bind_assoc]
  unfold Builtin.Frozenset.addrOf setAdd
  refine wpAny_bind (wpAny_pure ?_)
  try dsimp only
  refine wpAny_bind (wpAny_pure ?_)
  try dsimp only
  refine wpAny_bind (wpAny_holding (wpAny_bind (wpAny_pyHash_tuple (hu := ?u1) hx ?_)))
  case u1 => show X.A.units + 1 < cLine; omega
  refine add_at (s := { s with toks := s.toks + (k.length + 1) }) R hx (show X.A.units + 1 < cLine by omega) few fun b h' L' es' ep' t' sb R' c1 c2 => ?_
  show wpAny _ _ (ret Value.none) _ _ _
  refine wpAny_pure ⟨_, rfl, h L' _ c1 c2 ?_⟩
  have he : ∃ u, h'.get? Dn = some u := let ⟨u, e, _⟩ := R'.ob; ⟨u, e⟩
  exact I.write (e := Dn) (t' := s.toks + (k.length + 1)) (by rw [hD]; trivial) (.inl rfl) (fun b u hb hu => (sb.2 b hb).trans hu) he (setTO_new R'.t0)
end
abbrev tI (ks : List Int) : D := .tuple (ks.map .int)
theorem perm_lift {α β : Type} (f : α → β) {vs m : List β} (h : vs.Perm m) : ∀ L : List α, m = L.map f → ∃ L1 : List α, L1.Perm L ∧ vs = L1.map f := by
  induction h with
  | nil =>
    intro L e
    cases L with
    | nil => exact ⟨[], .nil, rfl⟩
    | cons _ _ => cases e
  | cons x _ ih =>
    intro L e
    cases L with
    | nil => cases e
    | cons l L =>
      rw [List.map_cons] at e
      injection e with e1 e2
      obtain ⟨L1, p, e3⟩ := ih L e2
      exact ⟨l :: L1, p.cons l, by rw [List.map_cons, ← e1, e3]⟩
  | swap x y r =>
    intro L e
    cases L with
    | nil => cases e
    | cons a L =>
      cases L with
      | nil => cases e
      | cons b L =>
        rw [List.map_cons, List.map_cons] at e
        injection e with e1 e2
        injection e2 with e2 e3
        exact ⟨b :: a :: L, .swap a b L, by rw [List.map_cons, List.map_cons, e1, e2, e3]⟩
  | trans _ _ ih1 ih2 =>
    intro L e
    obtain ⟨L2, p2, e2⟩ := ih2 L e
    obtain ⟨L1, p1, e1⟩ := ih1 L2 e2
    exact ⟨L1, p1.trans p2, e1⟩
/-- the pairs of a set, by the order of their tuples -/
def sortP (L : List (Addr × List Int)) : List (Addr × List Int) := L.mergeSort fun a b => leD (tI a.2) (tI b.2)
section
variable {P : Program} {w : World} {A : Around} {E : Value → Shared → Prop} {s : Shared} {Q : Value → Shared → Prop} {L : List (Addr × List Int)} {a : Addr} {es : Array (Int × Value)} {ep : Nat} {t : SetTable}
theorem each_pairs {α : Type} {f : α → Value} : ∀ L : List α, PySem.W.EachIs (fun u q => u = f q) (L.map f) L
  | [] => .nil
  | q :: L => .cons rfl (each_pairs L)
theorem pairs_each {α : Type} {f : α → Value} : ∀ {out : List Value} {L : List α}, PySem.W.EachIs (fun u q => u = f q) out L → out = L.map f
  | _, _, .nil => rfl
  | _, _, .cons e t => by rw [List.map_cons, e, pairs_each t]
set_option maxHeartbeats 1000000 in
open PySem.W in
/-- sorted of a set of tuples of numbers -/
theorem sorted_setD (R : SetTR P w s.heap a L es ep t) (hh : A.handled = none) (hu : ∀ p ∈ L, A.units + 2 + (tI p.2).depth < cLine) (hal : AllAlike (L.map fun p => tI p.2)) (hk : Sortable (L.map fun p => tI p.2)) (hr : ∀ p ∈ L, ∃ as, Reads s.heap (.ref p.1) (tI p.2) as)
    (hQ : ∀ (s' : Shared) (p : Addr) (out : Array Value) (c : Nat) (L' : List (Addr × List Int)), (∀ b o, s.heap.get? b = some o → s'.heap.get? b = some o) → s'.gens = s.gens → s'.os = s.os → s.heap.objs.size ≤ p → s'.heap.get? p = some (seqObj "list" out c) →
      L'.Perm L → out.toList = (sortP L').map (fun q => Value.ref q.1) → Q (.ref p) s') : wpAny (model P w) A (call (.builtin "sorted") [.ref a]) Q E s := by
  obtain ⟨o, ho, hex, hd⟩ := R.ob
  have hsz := R.size
  have hfew := R.few
  refine call_function_entry_kw kind_sorted plain_sorted entry_sorted (args_sorted1 _) ?_
  unfold Builtin.«sorted»
  refine wpAny_bind (m := checkCount "sorted" 1 1 _) (wpAny_pure ?_)
  refine wpAny_bind (collect_set (A := A.in1) hh ⟨o, ho, hex.1, hd⟩ R.fits (by unfold scanBound; omega) R.tab.ris R.led fun s1 vs k1 hz g1 o1 pm => ?_)
  have hes : es.toList.map (·.2) = L.map fun q => Value.ref q.1 := by rw [R.rows]; unfold L2.rowsOf; rw [List.map_map]; rfl
  rw [hes] at pm
  obtain ⟨L1, p1, rfl⟩ := perm_lift _ pm L rfl
  have few1 : (L1.map fun q => Value.ref q.1).length ≤ sizeLine := by rw [List.length_map, p1.length_eq, sizeLine_eq]; omega
  refine wpAny_bind (wpAny_newList ?_ few1)
  have at2 : (s1.heap.push (seqObj "list" (L1.map fun q => Value.ref q.1).toArray 0)).get? s1.heap.objs.size = some (seqObj "list" (L1.map fun q => Value.ref q.1).toArray 0) := Heap.get?_push_size _ rfl
  have old2 : ∀ b u, s.heap.get? b = some u → (s1.heap.push (seqObj "list" (L1.map fun q => Value.ref q.1).toArray 0)).get? b = some u := fun b u e => Heap.get?_push_of_some _ (k1 b u e)
  have ne2 : ∀ b u, s.heap.get? b = some u → b ≠ s1.heap.objs.size := fun b u e => Nat.ne_of_lt (Heap.lt_size (k1 b u e))
  have sz2 : ∀ b u, s.heap.get? b = some u → b < (s1.heap.push (seqObj "list" (L1.map fun q => Value.ref q.1).toArray 0)).objs.size := fun b u e => by rw [size_push']; exact Nat.lt_succ_of_lt (Heap.lt_size (k1 b u e))
  show wpAny _ _ _ _ _ { s1 with heap := s1.heap.push (seqObj "list" (L1.map fun q => Value.ref q.1).toArray 0) }
  generalize s1.heap.push (seqObj "list" (L1.map fun q => Value.ref q.1).toArray 0) = h2 at at2 old2 sz2 ⊢
  generalize s1.heap.objs.size = p at at2 ne2 hz ⊢
  have mem1 : ∀ p ∈ L1, p ∈ L := fun p hp => p1.mem_iff.mp hp
  have map1 : ∀ d, d ∈ L1.map (fun p => tI p.2) → d ∈ L.map fun p => tI p.2 := fun d hd => by
    obtain ⟨p, hp, e⟩ := List.mem_map.mp hd
    exact List.mem_map.mpr ⟨p, mem1 p hp, e⟩
  have al1 : AllAlike (L1.map fun p => tI p.2) := fun d hd e he => hal d (map1 d hd) e (map1 e he)
  have so1 : Sortable (L1.map fun p => tI p.2) := hk.elim (fun h => .inl fun d hd => h d (map1 d hd)) fun h => .inr fun d hd => h d (map1 d hd)
  obtain ⟨vs, hvs⟩ : ∃ vs, vs = L1.map fun q : Addr × List Int => Value.ref q.1 := ⟨_, rfl⟩
  rw [← hvs] at at2 few1
  have rd3 : ∀ M : List (Addr × List Int), (∀ q ∈ M, q ∈ L) → EachIs (fun v q => ∃ as, Reads (sortingHeap h2 p vs) v (tI q.2) as) (M.map fun q => Value.ref q.1) M := by
    intro M
    induction M with
    | nil => intro _; exact .nil
    | cons q M ih =>
      intro h
      obtain ⟨as, r⟩ := hr q (h q List.mem_cons_self)
      exact .cons ⟨as, PyProof.Rows.Reads.keeps (fun b u e => sortingHeap_old (ne2 b u e) (old2 b u e)) r⟩ (ih fun q hq => h q (List.mem_cons_of_mem _ hq))
  have rd1 := rd3 L1 mem1
  rw [← hvs] at rd1
  have ei : EachIs (fun u (q : Addr × List Int) => u = Value.ref q.1) vs L1 := by rw [hvs]; exact each_pairs L1
  have eo := pairs_each (sortVals_data false ei rd1 al1)
  have S : SortsAt P w A.in1.in1 { s1 with heap := sortingHeap h2 p vs } (dataKind (sortingHeap h2 p vs) (L1.map fun p => tI p.2)) vs :=
    SortsAt.data (s := { s1 with heap := sortingHeap h2 p vs }) (each_map (R := fun v d => ∃ as, Reads (sortingHeap h2 p vs) v d as) (fun p : Addr × List Int => tI p.2) rd1) al1 so1 (bound_map fun p hp => hu p (mem1 p hp))
  refine wpAny_bind (wpAny_holding (wpAny_call_entry_kw slot_list_sort ⟨_, at2, rfl⟩ entry_list_sort ?body (args_list_sort _)))
  case body =>
    show wpAny (model P w) A.in1.in1 (Builtin.«list.sort» ⟨[.ref p], []⟩) _ _ { s1 with heap := h2 }
    refine list_sort_vals (s := { s1 with heap := h2 }) at2 S few1 ⟨_, rfl, wpAny_pure ⟨_, rfl, ?_⟩⟩
    obtain ⟨c, hc⟩ := sortedHeap_at (vs := vs) (out := (sortVals (dataKind (sortingHeap h2 p vs) (L1.map fun p => tI p.2)) false vs vs).toArray) at2
    refine hQ _ p _ c L1 (fun b u e => ?_) g1 o1 hz hc p1 ?_
    · show (sortedHeap h2 p vs _).get? b = some u
      rw [sortedHeap_old (ne2 b u e) (sz2 b u e)]
      exact old2 b u e
    · rw [List.toList_toArray]
      exact eo
end
end MW
namespace MW
open PySem PySem.Spec PyProof.Rows L2
/-- {elt for .. if ..}: D the new set -/
def tbST (K : Fg) (P : Program) (w : World) (te : TE) (Dn : Addr) : TBd := fun σ H N => te σ H fun y H1 => ∃ (a : Addr) (k : List Int) (L : List (Addr × List Int)), y = .ref a ∧ SqT K H1 a (k.map V.int) ∧ H1 Dn = some (SetTO P w Dn L) ∧ (∀ p ∈ L, SqT K H1 p.1 (p.2.map V.int)) ∧ L.length + 1 < 64 ∧
  ∀ L', (k ∈ L.map (·.2) → L' = L) → (k ∉ L.map (·.2) → L'.Perm ((a, k) :: L)) → N (upd H1 Dn (SetTO P w Dn L'))
def bodyS (elt : Expr) (Dn : Addr) (env : Env) : Sem Unit := do
  let v ← eval elt env
  standAt elt.pos
  let _ ← call (.builtin "set.add") [.ref Dn, v]
theorem bodyS_ok {Z : Cx} {elt : Expr} {te : TE} {σ0 : Sts} {Dn : Addr} (hx : ∀ e s, Z.xe e s → False) (hu : Z.A.units + 3 < cLine) (pe : PE Z elt te) : BodyOk Z σ0 (bodyS elt Dn Z.env) (tbST Z.K Z.prog Z.w te Dn) := by
  intro pins s σ H N I kp h
  unfold bodyS
  refine wpAny_bind (wpAny_mono (pe.run pins s σ H _ I h) (fun u s1 ⟨y, H1, I1, r1, a, k, L, ey, ha, hD, hL, few, nx⟩ => ?_) fun e s z => (hx e s z).elim)
  subst ey
  cases r1
  refine wpAny_bind (wpAny_standAt (wpAny_bind (tup_add I1 hu hD hL ha few fun L' s' c1 c2 I' => ?_)))
  exact wpAny_pure ⟨σ, _, I', kp, nx L' c1 c2⟩
section
variable {X : Cx} {elt tg iter : Expr} {ifs : List Expr} {scope : Scope} {own : List (Str × Nat)} {pos : Pos} {wi : TI} {g : TG} {tt : TT} {te : TE}
theorem pe_scT (hc : X.calm = true) (hN : X.N.Nodup) (hu : X.A.units + 3 < cLine) (hi : PI X tg iter wi) (ok : BlkOk X.N X.env.scope scope own)
    (hg : ∀ (s : Shared) (H : Hp) (C : Addr) (cl : List (Str × Addr)) (fp : List Addr), PG (X.blk s H scope (compEnvC scope cl C X.env) fp) tg g) (hif : ∀ (s : Shared) (H : Hp) (C : Addr) (cl : List (Str × Addr)) (fp : List Addr), PTs (X.blk s H scope (compEnvC scope cl C X.env) fp) ifs tt)
    (he : ∀ (s : Shared) (H : Hp) (C : Addr) (cl : List (Str × Addr)) (fp : List Addr), PE (X.blk s H scope (compEnvC scope cl C X.env) fp) elt te) (hs : ∀ x, foldedSetIterable iter X.env x = pure x) :
    PE X (.SetComp elt [⟨tg, iter, ifs, 0⟩] scope pos) (tComp wi g tt (tbST X.K X.prog X.w te) (fun Dn => SetTO X.prog X.w Dn []) (own.map (·.2))) :=
  pe_comp (body := bodyS elt) (PpSet.eval_SetComp elt _ scope pos) plain_set rfl (fun A E s Q h => PpSet.newSet_ok h) (fun H h _ => setTO_new (setTR_fresh (Heap.get?_push_size _ rfl)).t0) hc hN hi ok (fun it Dn env => by rfl) hg hif
    (fun s H C cl fp σ Dn => bodyS_ok (Z := X.blk s H scope (compEnvC scope cl C X.env) fp) (fun _ _ z => z) hu (he s H C cl fp)) hs
end
def keyI : D → Option (List Int)
  | .tuple ds => intsOf ds
  | _ => none
def okKey (d : D) : Bool := match keyI d with
  | some (_ :: _) => true
  | _ => false
theorem intsOf_ints : ∀ ks : List Int, intsOf (ks.map PyData.int) = some ks
  | [] => rfl
  | k :: ks => by show (intsOf (ks.map PyData.int)).map (k :: ·) = _; rw [intsOf_ints ks]; rfl
theorem intsOf_eq : ∀ {ds : List D} {ks : List Int}, intsOf ds = some ks → ds = ks.map PyData.int
  | [], _, e => by cases e; rfl
  | d :: ds, ks, e => by
    cases d with
    | int n =>
      obtain ⟨m, e1, rfl⟩ := Option.map_eq_some_iff.mp (show (intsOf ds).map (n :: ·) = _ from e)
      rw [intsOf_eq e1]; rfl
    | _ => cases e
theorem keyI_eq {d : D} {k : List Int} (h : keyI d = some k) : d = tI k := by
  cases d with
  | tuple ds => exact congrArg PyData.tuple (intsOf_eq h)
  | _ => cases h
/-- the keys, each once -/
def ddK : List (List Int) → List (List Int)
  | [] => []
  | k :: ks => if k ∈ ddK ks then ddK ks else k :: ddK ks
theorem mem_ddK {x : List Int} : ∀ {ks : List (List Int)}, x ∈ ddK ks ↔ x ∈ ks
  | [] => Iff.rfl
  | k :: ks => by
    unfold ddK
    split
    · rename_i h
      rw [mem_ddK (ks := ks), List.mem_cons]
      exact ⟨.inr, fun z => z.elim (fun e => by rw [e]; exact mem_ddK.mp h) id⟩
    · rw [List.mem_cons, List.mem_cons, mem_ddK (ks := ks)]
theorem ddK_nodup : ∀ ks : List (List Int), (ddK ks).Nodup
  | [] => List.nodup_nil
  | k :: ks => by
    unfold ddK
    split
    · exact ddK_nodup ks
    · rename_i h
      exact List.nodup_cons.mpr ⟨h, ddK_nodup ks⟩
def leI (a b : List Int) : Bool := decide (a ≤ b)
theorem leD_tI (a b : List Int) : leD (tI a) (tI b) = leI a b := by
  show (!PySem.W.dataLt (.tuple (b.map .int)) (.tuple (a.map .int))) = _
  rw [PySem.W.dataLt_tuple]
  show (!PySem.W.rowLt (b.map .int) (a.map .int)) = _
  rw [PySem.W.dataLt_ints]
  unfold leI
  by_cases h : b < a
  · have h2 : ¬ a ≤ b := fun r => List.not_lt.mpr r h
    simp [h, h2]
  · have h2 : a ≤ b := List.not_lt.mp h
    simp [h, h2]
theorem leI_trans (a b c : List Int) : leI a b = true → leI b c = true → leI a c = true := by
  unfold leI
  simp only [decide_eq_true_eq]
  exact fun h1 h2 => List.le_trans h1 h2
theorem leI_total (a b : List Int) : (leI a b || leI b a) = true := by
  unfold leI
  rw [Bool.or_eq_true, decide_eq_true_eq, decide_eq_true_eq]
  exact List.le_total a b
def sortK (ks : List (List Int)) : List (List Int) := ks.mergeSort leI
theorem sortK_perm {as bs : List (List Int)} (p : as.Perm bs) : sortK as = sortK bs :=
  ((List.mergeSort_perm as leI).trans (p.trans (List.mergeSort_perm bs leI).symm)).eq_of_pairwise (fun _ _ _ _ x y => List.le_antisymm (of_decide_eq_true x) (of_decide_eq_true y)) (List.pairwise_mergeSort leI_trans leI_total as) (List.pairwise_mergeSort leI_trans leI_total bs)
theorem sortP_keys (L : List (Addr × List Int)) : (sortP L).map (·.2) = sortK (L.map (·.2)) := by
  unfold sortP sortK
  exact List.map_mergeSort (f := Prod.snd) (s := leI) fun a _ b _ => leD_tI a.2 b.2
/-- what a set of pairs has to do with the items that were put into it -/
structure SetRel (K : Fg) (F : Hp) (L : List (Addr × List Int)) (ys : List D) : Prop where
  nd : (L.map (·.2)).Nodup
  rp : ∀ p ∈ L, p.2 ≠ [] ∧ Rp K F (.ref p.1) (tI p.2)
  mem : ∀ k, k ∈ L.map (·.2) ↔ k ∈ ys.filterMap keyI
  len : L.length ≤ ys.length
theorem SetRel.up {K : Fg} {F F' : Hp} {L : List (Addr × List Int)} {ys : List D} (s : Same F F') (h : SetRel K F L ys) : SetRel K F' L ys := ⟨h.nd, fun p hp => ⟨(h.rp p hp).1, (h.rp p hp).2.up s⟩, h.mem, h.len⟩
theorem SetRel.add {K : Fg} {F : Hp} {L L' : List (Addr × List Int)} {ys : List D} {a : Addr} {k : List Int} (h : SetRel K F L ys) (hk : k ≠ []) (r : Rp K F (.ref a) (tI k)) (c1 : k ∈ L.map (·.2) → L' = L) (c2 : k ∉ L.map (·.2) → L'.Perm ((a, k) :: L)) : SetRel K F L' (ys ++ [tI k]) := by
  have e : keyI (tI k) = some k := intsOf_ints k
  have em : ∀ x, x ∈ (ys ++ [tI k]).filterMap keyI ↔ x ∈ ys.filterMap keyI ∨ x = k := fun x => by
    rw [List.filterMap_append, List.mem_append]
    simp [e]
  by_cases hm : k ∈ L.map (·.2)
  · rw [c1 hm]
    refine ⟨h.nd, h.rp, fun x => ?_, by rw [List.length_append]; have := h.len; omega⟩
    rw [em, h.mem]
    exact ⟨.inl, fun z => z.elim id fun z => by rw [z]; exact (h.mem k).mp hm⟩
  · have p := c2 hm
    have pk := p.map (·.2)
    refine ⟨pk.nodup_iff.mpr (List.nodup_cons.mpr ⟨hm, h.nd⟩), fun q hq => ?_, fun x => ?_, by rw [p.length_eq, List.length_append, List.length_cons]; have := h.len; simp; omega⟩
    · rcases List.mem_cons.mp (p.mem_iff.mp hq) with z | z
      · rw [z]; exact ⟨hk, r⟩
      · exact h.rp q z
    · rw [em, pk.mem_iff, List.map_cons, List.mem_cons, h.mem]
      exact ⟨fun z => z.elim .inr .inl, fun z => z.elim .inr .inl⟩
theorem rp_key {K : Fg} {F H : Hp} {v : V} {k : List Int} (s : Same F H) (r : Rp K F v (tI k)) : ∃ a, v = .ref a ∧ SqT K H a (k.map V.int) := by
  cases r with
  | tup hq hr =>
    have e := rpL_intsD hr (intsOf_ints k)
    subst e
    exact ⟨_, rfl, sqT_same s hq.sq⟩
def mKey (me : Ev → Out D) : Ev → Out D := fun ρ => (me ρ).bind fun d ρ1 => if okKey d = true then .ok d ρ1 else .bad
theorem okKey_eq {d : D} (h : okKey d = true) : ∃ k, k ≠ [] ∧ d = tI k := by
  unfold okKey at h
  split at h
  · rename_i e
    exact ⟨_, by simp, keyI_eq e⟩
  · cases h
/-- one item more -/
theorem setStep {X : Cx} {S : Sg} {me : Ev → Out D} {Dn : Addr} {B' : Base} {σ5 : Sts} {F4 H4 : Hp} {ρ5 : Ev} {u : HO} {ys : List D} {N : Hp → Prop} {n : Nat} (hn : n ≤ 62) (I : SInv X.K S B' σ5 F4 H4 ρ5) (keep : ∀ F7 H7 ρ7, SInv X.K S B' σ5 F7 H7 ρ7 → H7 Dn = some u) (ac : ∃ L, u = SetTO X.prog X.w Dn L ∧ SetRel X.K F4 L ys) (hy : ys.length < n)
    (h : Sat (mKey me ρ5) (fun y ρ7 => ∀ F7 H7 u', SInv X.K S B' σ5 F7 H7 ρ7 → Same F4 F7 → (∃ L, u' = SetTO X.prog X.w Dn L ∧ SetRel X.K F7 L (ys ++ [y])) → N (upd H7 Dn u')) (fun _ _ => False)) : tbST X.K X.prog X.w (tME X.K X.mg W0 S me) Dn σ5 H4 N := by
  obtain ⟨L, rfl, rel⟩ := ac
  refine ⟨B', F4, ρ5, I, (Sat.bind h).mono (fun d ρ7 h7 F7 H7 v I7 s7 r7 => ?_) fun _ _ z => z.elim⟩
  have h7 : Sat (if okKey d = true then Out.ok d ρ7 else .bad) _ _ := h7
  split at h7
  · rename_i ok
    obtain ⟨k, hk, rfl⟩ := okKey_eq ok
    obtain ⟨a, rfl, ha⟩ := rp_key I7.same r7
    refine ⟨a, k, L, rfl, ha, keep F7 H7 ρ7 I7, fun p hp => ?_, by have := rel.len; omega, fun L' c1 c2 => h7 F7 H7 _ I7 s7 ⟨L', rfl, (rel.up s7).add hk r7 c1 c2⟩⟩
    obtain ⟨a', e, h'⟩ := rp_key I7.same ((rel.rp p hp).2.up s7)
    cases e
    exact h'
  · exact h7.elim
def rSortS (K : Fg) (P : Program) (w : World) (U : Nat) : List V → Hp → VK → Prop := fun vs H Q => ∃ (a : Addr) (L : List (Addr × List Int)), vs = [.ref a] ∧ H a = some (SetTO P w a L) ∧ (∀ p ∈ L, p.2 ≠ [] ∧ SqT K H p.1 (p.2.map V.int) ∧ Dp K H (.ref p.1) (tI p.2)) ∧
  ∀ (L' : List (Addr × List Int)) (p : Addr), L'.Perm L → H p = none → Q (.ref p) (upd H p (.lst ((sortP L').map fun q => V.ref q.1)))
theorem alike_ints : ∀ a b : List Int, PySem.W.alikeAll (a.map PyData.int) (b.map PyData.int) = true
  | [], b => by cases b <;> simp [PySem.W.alikeAll]
  | _ :: a, [] => by simp [PySem.W.alikeAll]
  | _ :: a, _ :: b => by simp [PySem.W.alikeAll, PySem.W.alike, alike_ints a b]
theorem depth_ints : ∀ q : List Int, PyData.depthAll (q.map PyData.int) = 0
  | [] => rfl
  | _ :: q => by simp [PyData.depthAll, PyData.depth, depth_ints q]
theorem canLay_ints : ∀ q : List Int, PyData.canLayAll0 (q.map PyData.int) = true
  | [] => rfl
  | _ :: q => by simp [PyData.canLayAll0, PyData.canLay0, canLay_ints q]
theorem depth_tI (k : List Int) : (tI k).depth ≤ 1 := by simp [PyData.depth, depth_ints]
section
variable {X : Cx}
theorem cr_sortS (hc : X.calm = true) (hu : X.A.units + 80 < cLine) : CallR X (.builtin "sorted") (rSortS X.K X.prog X.w X.A.units) := by
  intro pins s σ H vs us Q I r h
  obtain ⟨a, L, rfl, ha, hp, q⟩ := h
  rw [Vals.ref1 r]
  obtain ⟨es, ep, t, R⟩ := SetT0.full (I.hok a _ ha).1 fun p hm => I.isT (hp p hm).2.1
  refine sorted_setD R (I.ok.hd hc) (fun p hm => by have := depth_tI p.2; omega) (fun d hd e he => ?_) (.inl fun d hd => ?_) (fun p hm => Dp.reads I _ _ _ (hp p hm).2.2 rfl) fun s' p out c L' keep g1 o1 hz hg pm ho => ?_
  · obtain ⟨x, _, rfl⟩ := List.mem_map.mp hd
    obtain ⟨y, _, rfl⟩ := List.mem_map.mp he
    simp [PySem.W.alike, alike_ints]
  · obtain ⟨x, hx, rfl⟩ := List.mem_map.mp hd
    have := (hp x hx).1
    cases e : x.2 with
    | nil => exact absurd e this
    | cons n ns => exact ⟨_, _, rfl⟩
  · have hn : H p = none := I.hok.fresh hz
    have few : ((sortP L').map fun q => V.ref q.1).length ≤ sizeLine := by
      have e : (sortP L').length = L'.length := List.length_mergeSort L'
      rw [List.length_map, e, pm.length_eq, sizeLine_eq]
      have := R.few
      omega
    have hv : Vals ((sortP L').map fun q => V.ref q.1) out.toList := by rw [ho]; exact vals_of_refs _
    have J : Inv X pins σ (upd H p (.lst ((sortP L').map fun q => V.ref q.1))) { s with heap := s'.heap, gens := s'.gens, drawn := s'.drawn, toks := s'.toks } :=
      I.call (ch := []) (Un.laid keep hz hn) (I.hok.laid keep hz ⟨few, out.toList, c, hv, hg⟩) (by rw [g1]; exact I.bare) (fun _ z => nomatch z)
    have e : s' = { s with heap := s'.heap, gens := s'.gens, drawn := s'.drawn, toks := s'.toks } := by
      cases s'
      cases s
      cases o1
      rfl
    rw [e]
    exact ⟨.ref p, _, J, rfl, q L' p pm hn⟩
/-- sorted({elt for target in iter if ..}) -/
def mSortSet (mi : Ev → Out (List D)) (g : Ev → D → Option Ev) (mt : Ev → Out Bool) (me : Ev → Out D) (vs : List Nat) : Ev → Out (List D) := fun ρ => (mi ρ).bind fun items ρ1 =>
  if items.length ≤ 62 then ((noE (compM g mt (mKey me) vs items (wipeE ρ1 vs))).bind fun ys ρ2 => Out.ok ys (restE ρ1 ρ2 vs)).bind fun ys ρ3 => .ok ((sortK (ddK (ys.filterMap keyI))).map tI) ρ3 else .bad
variable {W : WX} {S : Sg} {elt tg iter : Expr} {ifs : List Expr} {scope : Scope} {oS : List (Str × Nat)} {pos spos p : Pos} {mi : Ev → Out (List D)} {g : Ev → D → Option Ev} {t : TG} {mt : Ev → Out Bool} {me : Ev → Out D}
theorem ml_sortSet (hu : X.A.units + 80 < cLine) (hgl : Gl X "sorted") (hm : X.mg "sorted" = none) (hc : X.calm = true) (hN : X.N.Nodup) (hi : MI X W S tg iter mi) (ok : blkC X.N X.env.scope scope oS = true) (hv : (oS.map (·.2)).all (fun i => knd S i == 0) = true)
    (hg : ∀ (s : Shared) (H : Hp) (C : Addr) (cl : List (Str × Addr)) (fp : List Addr), MG (X.blk s H scope (compEnvC scope cl C X.env) fp) S tg t (oS.map (·.2)) g)
    (ht : ∀ (s : Shared) (H : Hp) (C : Addr) (cl : List (Str × Addr)) (fp : List Addr), MTs (X.blk s H scope (compEnvC scope cl C X.env) fp) W0 S ifs mt)
    (he : ∀ (s : Shared) (H : Hp) (C : Addr) (cl : List (Str × Addr)) (fp : List Addr), ME (X.blk s H scope (compEnvC scope cl C X.env) fp) W0 S elt me) (s0 : Shared := X.s_0) (hs : ∀ x, foldedSetIterable iter X.env x = pure x := by intro _; rfl)
    (hb : bootBuiltins "sorted" = some (.builtin "sorted") := by decide +kernel) (hst : starEach [.SetComp elt [⟨tg, iter, ifs, 0⟩] scope spos] X.env = (false, eval (.SetComp elt [⟨tg, iter, ifs, 0⟩] scope spos) X.env) :: starEach [] X.env := by rfl) (hpl : (backTo pos (starEach [] X.env)).any (·.1) = false := by rfl) :
    ML X W S (.Call (.Name "sorted" p) [.SetComp elt [⟨tg, iter, ifs, 0⟩] scope spos] [] pos) (mSortSet mi g mt me (oS.map (·.2))) := by
  obtain ⟨w, pw, qw⟩ := hi.ex
  have hv' : ∀ i ∈ oS.map (·.2), knd S i = 0 := fun i hi => by
    have := List.all_eq_true.mp hv i hi
    simpa using this
  have pe := pe_scT (elt := elt) (ifs := ifs) (tt := tMT X.K X.mg W0 S mt) (te := tME X.K X.mg W0 S me) (pos := spos) hc hN (by omega) pw (blkOk_by ok) (fun s H C cl fp => (hg s H C cl fp).pg) (fun s H C cl fp => (ht s H C cl fp).run) (fun s H C cl fp => (he s H C cl fp).run) hs
  refine ⟨_, pe_callB (cr_sortS hc hu) hgl hm hb (pa_cons pe pa_nil hst) (by decide) (by decide) hst hpl, fun B F H σ ρ Q I h => ?_⟩
  refine qw B F H σ ρ _ I ((Sat.bind h).mono (fun items ρ1 h1 F1 H1 J I1 s1 wd hl => fun Dn hD => ?_) fun _ _ z => z)
  have h1 : Sat (if items.length ≤ 62 then ((noE (compM g mt (mKey me) (oS.map (·.2)) items (wipeE ρ1 (oS.map (·.2))))).bind fun ys ρ2 => Out.ok ys (restE ρ1 ρ2 (oS.map (·.2)))).bind fun ys ρ3 => .ok ((sortK (ddK (ys.filterMap keyI))).map tI) ρ3 else .bad) (LKo X.K S B σ F Q) (XKo X W S B σ F) := h1
  split at h1
  · rename_i few
    refine comp_sat (me := mKey me) (Ac := fun F u ys => ∃ L, u = SetTO X.prog X.w Dn L ∧ SetRel X.K F L ys) hv' (fun B F H σ ρ v d ρ1 Q I r e k => (hg s0 H 0 [] []).ok B F H σ ρ v d ρ1 Q I r e k) I1 wd hD (fun F F' u ys s ⟨L, e, r⟩ => ⟨L, e, r.up s⟩) (fun F u ys ⟨L, e, r⟩ => e ▸ soft_setTO) ⟨[], rfl, List.nodup_nil, (fun p hp => by cases hp), (fun k => by simp), Nat.le_refl _⟩
      (fun B' σ5 F4 H4 ρ5 u ys N I5 keep ac hy hh => setStep few I5 keep ac hy hh) ((Sat.bind h1).mono (fun ys ρ3 h3 F' H' u I' s' hF hH ac _ _ => ?_) fun _ _ z => z)
    obtain ⟨L, rfl, rel⟩ := ac
    have h3 : LKo X.K S B σ F Q ((sortK (ddK (ys.filterMap keyI))).map tI) ρ3 := h3
    refine ⟨Dn, L, rfl, hH, fun p hp => ⟨(rel.rp p hp).1, ?_, ?_⟩, fun L' p pm hp => ?_⟩
    · obtain ⟨a, e, z⟩ := rp_key I'.same (rel.rp p hp).2
      cases e
      exact z
    · exact ((rel.rp p hp).2.up I'.same).dp (by simp [PyData.canLay0, canLay_ints])
    · have e : sortK (ddK (ys.filterMap keyI)) = (sortP L').map (·.2) := by
        rw [sortP_keys]
        refine sortK_perm ((List.perm_ext_iff_of_nodup (ddK_nodup _) ((pm.map (·.2)).nodup_iff.mpr rel.nd)).mpr fun k => ?_)
        rw [mem_ddK, ← rel.mem, (pm.map (·.2)).mem_iff]
      refine LKo.mk (fun F'' H'' p' xs' I'' s'' => h3 F'' H'' p' xs' I'' ((s1.trans s').trans s'')) I' ?_ hp
      rw [e]
      have all : ∀ M : List (Addr × List Int), (∀ q ∈ M, Rp X.K F' (.ref q.1) (tI q.2)) → RpL X.K F' (M.map fun q => V.ref q.1) ((M.map (·.2)).map tI) := by
        intro M
        induction M with
        | nil => intro _; exact .nil
        | cons q M ih => intro z; exact .cons (z q List.mem_cons_self) (ih fun r hr => z r (List.mem_cons_of_mem _ hr))
      exact all _ fun q hq => (rel.rp q (pm.mem_iff.mp ((List.mergeSort_perm _ _).mem_iff.mp hq))).2
  · exact h1.elim
end
end MW
namespace MW
open PySem PySem.Spec PyProof.Rows L2
theorem soft_setO {w : World} {a : Addr} {S : Int → Bool} {n : Nat} : Soft (SetO w a S n) := soft_ext (a := a) fun h k => by
  obtain ⟨o, es, ep, t, e1, _, e2, _⟩ := k
  exact ⟨o, es, ep, t, e1, e2⟩
section
variable {X : Cx} {pins : List (Addr × Obj)} {σ : Sts} {H : Hp} {s : Shared} {E : Value → Shared → Prop} {Q : Value → Shared → Prop} {S : Int → Bool} {n : Nat} {Dn : Addr} {k : Int} {tk : Tok}
theorem int_add (I : Inv X pins σ H s) (hD : H Dn = some (SetO X.w Dn S n)) (room : n + 1 < scanBound) (h : ∀ s', Inv X pins σ (upd H Dn (SetO X.w Dn (fun j => S j || decide (j = k)) (if S k = true then n else n + 1))) s' → Q .none s') :
    wpAny (model X.prog X.w) X.A (call (.builtin "set.add") [.ref Dn, .int k tk]) Q E s := by
  have R : SetR X.w s.heap Dn S n := (I.hok Dn _ hD).1
  refine setR_add R room fun h' sb new => h _ ?_
  exact I.write (e := Dn) (t' := s.toks + 1) (by rw [hD]; trivial) (.inl rfl) (fun b u hb hu => (sb.2 b hb).trans hu) (let ⟨u, _, _, _, e, _⟩ := new; ⟨u, e⟩) (setO_new new)
end
def tbSI (w : World) (te : TE) (Dn : Addr) : TBd := fun σ H N => te σ H fun y H1 => ∃ (k : Int) (S : Int → Bool) (n : Nat), y = .int k ∧ H1 Dn = some (SetO w Dn S n) ∧ n + 1 < scanBound ∧ N (upd H1 Dn (SetO w Dn (fun j => S j || decide (j = k)) (if S k = true then n else n + 1)))
theorem bodyI_ok {Z : Cx} {elt : Expr} {te : TE} {σ0 : Sts} {Dn : Addr} (hx : ∀ e s, Z.xe e s → False) (pe : PE Z elt te) : BodyOk Z σ0 (bodyS elt Dn Z.env) (tbSI Z.w te Dn) := by
  intro pins s σ H N I kp h
  unfold bodyS
  refine wpAny_bind (wpAny_mono (pe.run pins s σ H _ I h) (fun u s1 ⟨y, H1, I1, r1, k, S, n, ey, hD, room, nx⟩ => ?_) fun e s z => (hx e s z).elim)
  subst ey
  obtain ⟨tk, rfl⟩ := r1
  exact wpAny_bind (wpAny_standAt (wpAny_bind (int_add I1 hD room fun s' I' => wpAny_pure ⟨σ, _, I', kp, nx⟩)))
section
variable {X : Cx} {elt tg iter : Expr} {ifs : List Expr} {scope : Scope} {own : List (Str × Nat)} {pos : Pos} {wi : TI} {g : TG} {tt : TT} {te : TE}
theorem pe_scI (hc : X.calm = true) (hN : X.N.Nodup) (hi : PI X tg iter wi) (ok : BlkOk X.N X.env.scope scope own)
    (hg : ∀ (s : Shared) (H : Hp) (C : Addr) (cl : List (Str × Addr)) (fp : List Addr), PG (X.blk s H scope (compEnvC scope cl C X.env) fp) tg g) (hif : ∀ (s : Shared) (H : Hp) (C : Addr) (cl : List (Str × Addr)) (fp : List Addr), PTs (X.blk s H scope (compEnvC scope cl C X.env) fp) ifs tt)
    (he : ∀ (s : Shared) (H : Hp) (C : Addr) (cl : List (Str × Addr)) (fp : List Addr), PE (X.blk s H scope (compEnvC scope cl C X.env) fp) elt te) (hs : ∀ x, foldedSetIterable iter X.env x = pure x) :
    PE X (.SetComp elt [⟨tg, iter, ifs, 0⟩] scope pos) (tComp wi g tt (tbSI X.w te) (fun Dn => SetO X.w Dn (fun _ => false) 0) (own.map (·.2))) :=
  pe_comp (body := bodyS elt) (PpSet.eval_SetComp elt _ scope pos) plain_set rfl (fun A E s Q h => PpSet.newSet_ok h) (fun H h _ => setO_new (setR_fresh X.w)) hc hN hi ok (fun it Dn env => by rfl) hg hif
    (fun s H C cl fp σ Dn => bodyI_ok (Z := X.blk s H scope (compEnvC scope cl C X.env) fp) (fun _ _ z => z) (he s H C cl fp)) hs
def rLenS (w : World) : List V → Hp → VK → Prop := fun vs H Q => ∃ (a : Addr) (S : Int → Bool) (n : Nat), vs = [.ref a] ∧ H a = some (SetO w a S n) ∧ n < scanBound ∧ Q (.int n) H
theorem cr_lenS : CallR X (.builtin "len") (rLenS X.w) := by
  intro pins s σ H vs us Q I r h
  obtain ⟨a, S, n, rfl, ha, room, q⟩ := h
  rw [Vals.ref1 r]
  have R : SetR X.w s.heap a S n := (I.hok a _ ha).1
  obtain ⟨o, es, ep, t, ho, hex, hd, _, hnd, hk2, _, hf, hn, _⟩ := R
  refine call_len_set ho hex hd hf (by rw [hn]; unfold scanBound at room; omega) ⟨.int n, H, I.tok _, ⟨_, by rw [hn]⟩, q⟩
end
def numI : D → Option Int
  | .int i => some i
  | _ => none
structure NumRel (S : Int → Bool) (n : Nat) (ys : List D) : Prop where
  mem : ∀ k, S k = true ↔ k ∈ ys.filterMap numI
  num : n = (dd (ys.filterMap numI)).length
  len : n ≤ ys.length
theorem NumRel.add {S : Int → Bool} {n : Nat} {ys : List D} {k : Int} (h : NumRel S n ys) : NumRel (fun j => S j || decide (j = k)) (if S k = true then n else n + 1) (ys ++ [.int k]) := by
  have em : ∀ x, x ∈ (ys ++ [PyData.int k]).filterMap numI ↔ x ∈ ys.filterMap numI ∨ x = k := fun x => by
    rw [List.filterMap_append, List.mem_append]
    simp [numI]
  refine ⟨fun j => ?_, ?_, ?_⟩
  · rw [em, ← h.mem, Bool.or_eq_true, decide_eq_true_eq]
  · by_cases hk : S k = true
    · rw [if_pos hk, h.num]
      refine nodup_len (dd_nodup _) (dd_nodup _) fun x => ?_
      rw [mem_dd, mem_dd, em]
      exact ⟨.inl, fun z => z.elim id fun z => by rw [z]; exact (h.mem k).mp hk⟩
    · rw [if_neg hk, h.num]
      have hk' : k ∉ dd (ys.filterMap numI) := fun z => hk ((h.mem k).mpr (mem_dd.mp z))
      have : (k :: dd (ys.filterMap numI)).length = (dd ((ys ++ [PyData.int k]).filterMap numI)).length := by
        refine nodup_len (List.nodup_cons.mpr ⟨hk', dd_nodup _⟩) (dd_nodup _) fun x => ?_
        rw [List.mem_cons, mem_dd, mem_dd, em]
        exact ⟨fun z => z.elim .inr .inl, fun z => z.elim .inr .inl⟩
      rw [← this]; rfl
  · have := h.len
    rw [List.length_append]
    split <;> simp <;> omega
def mInt (me : Ev → Out D) : Ev → Out D := fun ρ => (me ρ).bind fun d ρ1 => match d with
  | .int i => .ok (.int i) ρ1
  | _ => .bad
theorem numStep {X : Cx} {S : Sg} {me : Ev → Out D} {Dn : Addr} {B' : Base} {σ5 : Sts} {F4 H4 : Hp} {ρ5 : Ev} {u : HO} {ys : List D} {N : Hp → Prop} {n : Nat} (hn : n ≤ 4000) (I : SInv X.K S B' σ5 F4 H4 ρ5) (keep : ∀ F7 H7 ρ7, SInv X.K S B' σ5 F7 H7 ρ7 → H7 Dn = some u) (ac : ∃ Sb m, u = SetO X.w Dn Sb m ∧ NumRel Sb m ys) (hy : ys.length < n)
    (h : Sat (mInt me ρ5) (fun y ρ7 => ∀ F7 H7 u', SInv X.K S B' σ5 F7 H7 ρ7 → Same F4 F7 → (∃ Sb m, u' = SetO X.w Dn Sb m ∧ NumRel Sb m (ys ++ [y])) → N (upd H7 Dn u')) (fun _ _ => False)) : tbSI X.w (tME X.K X.mg W0 S me) Dn σ5 H4 N := by
  obtain ⟨Sb, m, rfl, rel⟩ := ac
  refine ⟨B', F4, ρ5, I, (Sat.bind h).mono (fun d ρ7 h7 F7 H7 v I7 s7 r7 => ?_) fun _ _ z => z.elim⟩
  cases d with
  | int k =>
    cases r7
    exact ⟨k, Sb, m, rfl, keep F7 H7 ρ7 I7, by have := rel.len; unfold scanBound; omega, h7 F7 H7 _ I7 s7 ⟨_, _, rfl, rel.add⟩⟩
  | _ => exact h7.elim
/-- len({elt for target in iter if ..}) -/
def mLenSet (mi : Ev → Out (List D)) (g : Ev → D → Option Ev) (mt : Ev → Out Bool) (me : Ev → Out D) (vs : List Nat) : Ev → Out D := fun ρ => (mi ρ).bind fun items ρ1 =>
  if items.length ≤ 4000 then ((noE (compM g mt (mInt me) vs items (wipeE ρ1 vs))).bind fun ys ρ2 => Out.ok ys (restE ρ1 ρ2 vs)).bind fun ys ρ3 => .ok (.int ((dd (ys.filterMap numI)).length : Nat)) ρ3 else .bad
section
variable {X : Cx} {W : WX} {S : Sg} {elt tg iter : Expr} {ifs : List Expr} {scope : Scope} {oS : List (Str × Nat)} {pos spos p : Pos} {mi : Ev → Out (List D)} {g : Ev → D → Option Ev} {t : TG} {mt : Ev → Out Bool} {me : Ev → Out D}
theorem me_lenSetC (hgl : Gl X "len") (hm : X.mg "len" = none) (hc : X.calm = true) (hN : X.N.Nodup) (hi : MI X W S tg iter mi) (ok : blkC X.N X.env.scope scope oS = true) (hv : (oS.map (·.2)).all (fun i => knd S i == 0) = true)
    (hg : ∀ (s : Shared) (H : Hp) (C : Addr) (cl : List (Str × Addr)) (fp : List Addr), MG (X.blk s H scope (compEnvC scope cl C X.env) fp) S tg t (oS.map (·.2)) g)
    (ht : ∀ (s : Shared) (H : Hp) (C : Addr) (cl : List (Str × Addr)) (fp : List Addr), MTs (X.blk s H scope (compEnvC scope cl C X.env) fp) W0 S ifs mt)
    (he : ∀ (s : Shared) (H : Hp) (C : Addr) (cl : List (Str × Addr)) (fp : List Addr), ME (X.blk s H scope (compEnvC scope cl C X.env) fp) W0 S elt me) (s0 : Shared := X.s_0) (hs : ∀ x, foldedSetIterable iter X.env x = pure x := by intro _; rfl)
    (hb : bootBuiltins "len" = some (.builtin "len") := by decide +kernel) (hst : starEach [.SetComp elt [⟨tg, iter, ifs, 0⟩] scope spos] X.env = (false, eval (.SetComp elt [⟨tg, iter, ifs, 0⟩] scope spos) X.env) :: starEach [] X.env := by rfl) (hpl : (backTo pos (starEach [] X.env)).any (·.1) = false := by rfl) :
    ME X W S (.Call (.Name "len" p) [.SetComp elt [⟨tg, iter, ifs, 0⟩] scope spos] [] pos) (mLenSet mi g mt me (oS.map (·.2))) := by
  obtain ⟨w, pw, qw⟩ := hi.ex
  have hv' : ∀ i ∈ oS.map (·.2), knd S i = 0 := fun i hi => by
    have := List.all_eq_true.mp hv i hi
    simpa using this
  have pe := pe_scI (elt := elt) (ifs := ifs) (tt := tMT X.K X.mg W0 S mt) (te := tME X.K X.mg W0 S me) (pos := spos) hc hN pw (blkOk_by ok) (fun s H C cl fp => (hg s H C cl fp).pg) (fun s H C cl fp => (ht s H C cl fp).run) (fun s H C cl fp => (he s H C cl fp).run) hs
  refine ⟨_, pe_callB cr_lenS hgl hm hb (pa_cons pe pa_nil hst) (by decide) (by decide) hst hpl, fun B F H σ ρ Q I h => ?_⟩
  refine qw B F H σ ρ _ I ((Sat.bind h).mono (fun items ρ1 h1 F1 H1 J I1 s1 wd hl => fun Dn hD => ?_) fun _ _ z => z)
  have h1 : Sat (if items.length ≤ 4000 then ((noE (compM g mt (mInt me) (oS.map (·.2)) items (wipeE ρ1 (oS.map (·.2))))).bind fun ys ρ2 => Out.ok ys (restE ρ1 ρ2 (oS.map (·.2)))).bind fun ys ρ3 => .ok (.int ((dd (ys.filterMap numI)).length : Nat)) ρ3 else .bad) (EKo X.K S B σ F Q) (XKo X W S B σ F) := h1
  split at h1
  · rename_i few
    refine comp_sat (me := mInt me) (Ac := fun F u ys => ys.length ≤ items.length ∧ ∃ Sb m, u = SetO X.w Dn Sb m ∧ NumRel Sb m ys) hv' (fun B F H σ ρ v d ρ1 Q I r e k => (hg s0 H 0 [] []).ok B F H σ ρ v d ρ1 Q I r e k) I1 wd hD (fun F F' u ys s z => z) (fun F u ys ⟨_, Sb, m, e, _⟩ => e ▸ soft_setO) ⟨Nat.zero_le _, fun _ => false, 0, rfl, fun k => by simp, rfl, Nat.le_refl _⟩
      (fun B' σ5 F4 H4 ρ5 u ys N I5 keep ac hy hh => numStep few I5 keep ac.2 hy (hh.mono (fun y ρ7 z F7 H7 u' I7 s7 a => z F7 H7 u' I7 s7 ⟨by rw [List.length_append]; simp; omega, a⟩) fun _ _ z => z)) ((Sat.bind h1).mono (fun ys ρ3 h3 F' H' u I' s' hF hH ac _ _ => ?_) fun _ _ z => z)
    obtain ⟨hy, Sb, m, rfl, rel⟩ := ac
    have h3 : EKo X.K S B σ F Q (.int ((dd (ys.filterMap numI)).length : Nat)) ρ3 := h3
    refine ⟨Dn, Sb, m, rfl, hH, by have := rel.len; unfold scanBound; omega, ?_⟩
    have := h3 F' H' _ I' (s1.trans s') (.int _)
    rw [← rel.num] at this
    exact this
  · exact h1.elim
end
end MW
namespace MW
open PySem PySem.Spec PyProof.Rows L2
def bodyD (kx vx : Expr) (Dn : Addr) (env : Env) : Sem Unit := do
  let kv ← eval kx env
  let vv ← holding [kv] (eval vx env)
  standAt { kx.pos with endLine := vx.pos.endLine, endCol := vx.pos.endCol }
  holding [kv, vv] (dictSet Dn kv vv)
def tbD (tk tv : TE) (Dn : Addr) : TBd := fun σ H N => tk σ H fun y H1 => tv σ H1 fun z H2 => ∃ kvs k, y = kV k ∧ H2 Dn = some (.dK kvs) ∧ kvs.length < sizeLine ∧ N (upd H2 Dn (.dK (putK kvs k z)))
theorem bodyD_ok {Z : Cx} {kx vx : Expr} {tk tv : TE} {σ0 : Sts} {Dn : Addr} (hx : ∀ e s, Z.xe e s → False) (pk : PE Z kx tk) (pv : PE Z vx tv) : BodyOk Z σ0 (bodyD kx vx Dn Z.env) (tbD tk tv Dn) := by
  intro pins s σ H N I kp h
  unfold bodyD
  refine wpAny_bind (wpAny_mono (pk.run pins s σ H _ I h) (fun u s1 ⟨y, H1, I1, r1, q1⟩ => ?_) fun e s z => (hx e s z).elim)
  refine wpAny_bind (wpAny_holding (wpAny_mono (pv.run pins s1 σ H1 _ I1 q1) (fun u2 s2 ⟨z, H2, I2, r2, kvs, k, ey, hD, hz, nx⟩ => ?_) fun e s z => (hx e s z).elim))
  subst ey
  exact wpAny_bind (wpAny_standAt (wpAny_holding (d_dictSet I2 hD hz r1 r2 fun s3 I3 => ⟨σ, _, I3, kp, nx⟩)))
/-- the body that a further clause is -/
def bodyC (comp i1 : Expr) (Dn : Addr) (env : Env) : Sem Unit := do
  let x ← eval i1 env
  standAt i1.pos
  let x ← foldedSetIterable i1 env x
  let _ ← runOwn (.compStart comp 1 (← holding [x] (pyIter x)) (.ref Dn) env) env
def tbC (wi1 : TI) (g1 : TG) (tt1 : TT) (tb1 : TBd) (vs1 : List Nat) : TBd := fun σ H N => wi1 σ H fun J1 H1 => tWalk J1 g1 tt1 tb1 (L2.wipe σ vs1) H1 N
theorem kp_inner {σ0 σ : Sts} {vs1 : List Nat} (h : Kp σ0 σ) (hv : ∀ j ∈ vs1, ∀ v, σ0[j]? ≠ some (some v)) : Kp σ0 (L2.wipe σ vs1) := ⟨by rw [wipe_length]; exact h.1, fun j v e => by
  rw [MW.wipe_out fun z => hv j z v e]
  exact h.2 j v e⟩
theorem bodyC_ok {Z : Cx} {comp tg1 i1 : Expr} {ifs1 : List Expr} {wi1 : TI} {g1 : TG} {tt1 : TT} {tb1 : TBd} {body1 : Sem Unit} {vs1 : List Nat} {σ0 : Sts} {Dn : Addr} {c1 : Comprehension} (hx : ∀ e s, Z.xe e s → False) (hc : Z.calm = true) (hp : Plain comp) (hcl : (clausesOf comp)[1]? = some c1) (ha : c1.is_async = 0)
    (hs1 : ∀ x, foldedSetIterable i1 Z.env x = pure x) (hv : ∀ j ∈ vs1, ∀ v, σ0[j]? ≠ some (some v)) (pi1 : PI Z tg1 i1 wi1) (pg1 : PG Z tg1 g1) (pt1 : PTs Z ifs1 tt1)
    (ht : ∀ it : Value, compTurn comp 1 it (.ref Dn) Z.env = turnG tg1 i1 ifs1 comp 1 it (.ref Dn) Z.env body1) (hb : ∀ σ1, BodyOk Z σ1 body1 tb1) : BodyOk Z σ0 (bodyC comp i1 Dn Z.env) (tbC wi1 g1 tt1 tb1 vs1) := by
  intro pins s σ H N I kp h
  unfold bodyC
  refine wpAny_bind (wpAny_mono (pi1.run pins s σ H _ I h) (fun u s1 hu => ?_) fun e s z => (hx e s z).elim)
  refine wpAny_bind (wpAny_standAt (wpAny_bind (wpAny_of_eq (hs1 u) (wpAny_bind (wpAny_holding (wpAny_mono hu (fun itv s2 h2 => ?_) fun e s z => (hx e s z).elim))))))
  obtain ⟨it, fp, tn, J, H2, rfl, I2, T, st2, f2, w⟩ := h2
  refine wpAny_bind (wpAny_runOwn ?_)
  rw [Around.mark_none]
  have loop := walkG (Z := Z) (comp := comp) (k := 1) (acc := .ref Dn) (body := body1) (σ0 := L2.wipe σ vs1) (pins := pins) (N := N) (R := fun r s' => match r with
      | .ok _ => ∃ σ' H', Inv Z pins σ' H' s' ∧ Kp σ0 σ' ∧ N H'
      | .error _ => False) hp hx hc (ht _) pg1 pt1 (hb _) T st2 (I2.weak (wipe_length _ _) fun j v e => (wipe_some e).1) (fun b hb => f2 b hb) w fun s' H' I' n => ⟨_, H', I', kp_inner kp hv, n⟩
  refine codeAny_mono (startAny hp hcl ha loop (T.self Z.A 0 _ _ _ st2 loop)) fun r s' hr => ?_
  cases r with
  | ok f =>
    first
      | exact wpAny_pure hr
      | exact hr
  | error e => exact hr.elim
section
variable {X : Cx} {kx vx tg iter tg1 iter1 : Expr} {ifs ifs1 : List Expr} {scope : Scope} {own : List (Str × Nat)} {vs1 : List Nat} {pos : Pos} {wi wi1 : TI} {g g1 : TG} {tt tt1 : TT} {tk tv : TE}
theorem eval_DictComp (gens : List Comprehension) (env : Env) : eval (.DictComp kx vx gens scope pos) env = comprehension (.DictComp kx vx gens scope pos) scope env (firstIterPos gens pos) newDict (firstAsync gens) (firstIter gens env) := rfl
theorem pe_dc1 (hc : X.calm = true) (hN : X.N.Nodup) (hi : PI X tg iter wi) (ok : BlkOk X.N X.env.scope scope own)
    (hg : ∀ (s : Shared) (H : Hp) (C : Addr) (cl : List (Str × Addr)) (fp : List Addr), PG (X.blk s H scope (compEnvC scope cl C X.env) fp) tg g) (hif : ∀ (s : Shared) (H : Hp) (C : Addr) (cl : List (Str × Addr)) (fp : List Addr), PTs (X.blk s H scope (compEnvC scope cl C X.env) fp) ifs tt)
    (hk : ∀ (s : Shared) (H : Hp) (C : Addr) (cl : List (Str × Addr)) (fp : List Addr), PE (X.blk s H scope (compEnvC scope cl C X.env) fp) kx tk) (he : ∀ (s : Shared) (H : Hp) (C : Addr) (cl : List (Str × Addr)) (fp : List Addr), PE (X.blk s H scope (compEnvC scope cl C X.env) fp) vx tv) (hs : ∀ x, foldedSetIterable iter X.env x = pure x) :
    PE X (.DictComp kx vx [⟨tg, iter, ifs, 0⟩] scope pos) (tComp wi g tt (tbD tk tv) (fun _ => .dK []) (own.map (·.2))) :=
  pe_comp (mk := newDict) (o := { cls := .type "dict", data := .dict #[] }) (body := bodyD kx vx) (eval_DictComp _ _) plain_dict rfl (fun A E s Q h => by
    unfold newDict
    simp only [newObj]
    exact wpAny_bind (wpAny_alloc (wpAny_pure h))) (fun H h hb => dk_empty h hb) hc hN hi ok (fun it Dn env => by rfl) hg hif
    (fun s H C cl fp σ Dn => bodyD_ok (Z := X.blk s H scope (compEnvC scope cl C X.env) fp) (fun _ _ z => z) (hk s H C cl fp) (he s H C cl fp)) hs
theorem turn_two (it : Value) (Dn : Addr) (env : Env) : compTurn (.DictComp kx vx [⟨tg, iter, ifs, 0⟩, ⟨tg1, iter1, ifs1, 0⟩] scope pos) 0 it (.ref Dn) env = turnG tg iter ifs (.DictComp kx vx [⟨tg, iter, ifs, 0⟩, ⟨tg1, iter1, ifs1, 0⟩] scope pos) 0 it (.ref Dn) env (bodyC (.DictComp kx vx [⟨tg, iter, ifs, 0⟩, ⟨tg1, iter1, ifs1, 0⟩] scope pos) iter1 Dn env) := by
  unfold turnG bodyC
  simp only [bind_assoc]
  rfl
/-- with two clauses -/
theorem pe_dc2 (hc : X.calm = true) (hN : X.N.Nodup) (hi : PI X tg iter wi) (ok : BlkOk X.N X.env.scope scope own) (hv : ∀ i ∈ vs1, i ∈ own.map (·.2))
    (hg : ∀ (s : Shared) (H : Hp) (C : Addr) (cl : List (Str × Addr)) (fp : List Addr), PG (X.blk s H scope (compEnvC scope cl C X.env) fp) tg g) (hif : ∀ (s : Shared) (H : Hp) (C : Addr) (cl : List (Str × Addr)) (fp : List Addr), PTs (X.blk s H scope (compEnvC scope cl C X.env) fp) ifs tt)
    (hi1 : ∀ (s : Shared) (H : Hp) (C : Addr) (cl : List (Str × Addr)) (fp : List Addr), PI (X.blk s H scope (compEnvC scope cl C X.env) fp) tg1 iter1 wi1) (hg1 : ∀ (s : Shared) (H : Hp) (C : Addr) (cl : List (Str × Addr)) (fp : List Addr), PG (X.blk s H scope (compEnvC scope cl C X.env) fp) tg1 g1) (hif1 : ∀ (s : Shared) (H : Hp) (C : Addr) (cl : List (Str × Addr)) (fp : List Addr), PTs (X.blk s H scope (compEnvC scope cl C X.env) fp) ifs1 tt1)
    (hk : ∀ (s : Shared) (H : Hp) (C : Addr) (cl : List (Str × Addr)) (fp : List Addr), PE (X.blk s H scope (compEnvC scope cl C X.env) fp) kx tk) (he : ∀ (s : Shared) (H : Hp) (C : Addr) (cl : List (Str × Addr)) (fp : List Addr), PE (X.blk s H scope (compEnvC scope cl C X.env) fp) vx tv) (hs : ∀ x, foldedSetIterable iter X.env x = pure x) (hs1 : ∀ env x, foldedSetIterable iter1 env x = pure x) :
    PE X (.DictComp kx vx [⟨tg, iter, ifs, 0⟩, ⟨tg1, iter1, ifs1, 0⟩] scope pos) (tComp wi g tt (fun Dn => tbC wi1 g1 tt1 (tbD tk tv Dn) vs1) (fun _ => .dK []) (own.map (·.2))) :=
  pe_comp (mk := newDict) (o := { cls := .type "dict", data := .dict #[] }) (body := bodyC (.DictComp kx vx [⟨tg, iter, ifs, 0⟩, ⟨tg1, iter1, ifs1, 0⟩] scope pos) iter1) (eval_DictComp _ _) plain_dict rfl (fun A E s Q h => by
    unfold newDict
    simp only [newObj]
    exact wpAny_bind (wpAny_alloc (wpAny_pure h))) (fun H h hb => dk_empty h hb) hc hN hi ok (fun it Dn env => turn_two it Dn env) hg hif
    (fun s H C cl fp σ Dn => bodyC_ok (Z := X.blk s H scope (compEnvC scope cl C X.env) fp) (body1 := bodyD kx vx Dn (compEnvC scope cl C X.env)) (fun _ _ z => z) hc plain_dict rfl rfl (hs1 _) (fun j hj v e => (wipe_some e).2 (hv j hj)) (hi1 s H C cl fp) (hg1 s H C cl fp) (hif1 s H C cl fp) (fun it => by rfl)
      fun σ1 => bodyD_ok (fun _ _ z => z) (hk s H C cl fp) (he s H C cl fp)) hs
end
end MW
namespace MW
open PySem PySem.Spec PyProof.Rows L2
def keyOfD : D → Option L2.Key
  | .int i => some (.inl i)
  | .str x => some (.inr x)
  | _ => none
theorem keyOfD_eq {d : D} {k : L2.Key} (h : keyOfD d = some k) : d = keyD k := by
  cases d <;> first | (cases h; rfl) | cases h
theorem rp_keyD {K : Fg} {F : Hp} {v : V} {k : L2.Key} (r : Rp K F v (keyD k)) : v = kV k := by
  cases k <;> (cases r; rfl)
/-- d[k] = v -/
def putD (ps : List (L2.Key × D)) (k : L2.Key) (d : D) : List (L2.Key × D) := if (ps.any fun p => decide (p.1 = k)) = true then ps.map fun p => if p.1 = k then (p.1, d) else p else ps ++ [(k, d)]
def encD (ps : List (L2.Key × D)) : List (D × D) := ps.map fun p => (keyD p.1, p.2)
theorem realD_enc : ∀ ps : List (L2.Key × D), realD (encD ps) = true
  | [] => rfl
  | (.inl _, _) :: _ => rfl
  | (.inr _, _) :: _ => rfl
inductive RpP (K : Fg) (F : Hp) : List (L2.Key × V) → List (L2.Key × D) → Prop
  | nil : RpP K F [] []
  | cons {k : L2.Key} {v : V} {kvs : List (L2.Key × V)} {d : D} {ps : List (L2.Key × D)} : Rp K F v d → RpP K F kvs ps → RpP K F ((k, v) :: kvs) ((k, d) :: ps)
section
variable {K : Fg} {F F' : Hp}
theorem RpP.enc : ∀ {kvs : List (L2.Key × V)} {ps : List (L2.Key × D)}, RpP K F kvs ps → RpK K F kvs (encD ps)
  | _, _, .nil => .nil
  | _, _, .cons r t => .cons r t.enc
theorem RpP.up (s : Same F F') : ∀ {kvs : List (L2.Key × V)} {ps : List (L2.Key × D)}, RpP K F kvs ps → RpP K F' kvs ps
  | _, _, .nil => .nil
  | _, _, .cons r t => .cons (r.up s) (t.up s)
theorem RpP.len : ∀ {kvs : List (L2.Key × V)} {ps : List (L2.Key × D)}, RpP K F kvs ps → kvs.length = ps.length
  | _, _, .nil => rfl
  | _, _, .cons r t => by rw [List.length_cons, List.length_cons, t.len]
theorem RpP.any (k : L2.Key) : ∀ {kvs : List (L2.Key × V)} {ps : List (L2.Key × D)}, RpP K F kvs ps → (kvs.any fun kv => decide (kv.1 = k)) = ps.any fun p => decide (p.1 = k)
  | _, _, .nil => rfl
  | _, _, .cons r t => by rw [List.any_cons, List.any_cons, t.any k]
theorem RpP.app : ∀ {kvs ls : List (L2.Key × V)} {ps qs : List (L2.Key × D)}, RpP K F kvs ps → RpP K F ls qs → RpP K F (kvs ++ ls) (ps ++ qs)
  | _, _, _, _, .nil, h => h
  | _, _, _, _, .cons r t, h => .cons r (t.app h)
theorem RpP.over (k : L2.Key) {v : V} {d : D} (r : Rp K F v d) : ∀ {kvs : List (L2.Key × V)} {ps : List (L2.Key × D)}, RpP K F kvs ps → RpP K F (kvs.map fun kv => if kv.1 = k then (kv.1, v) else kv) (ps.map fun p => if p.1 = k then (p.1, d) else p)
  | _, _, .nil => .nil
  | _, _, .cons (k := j) r1 t => by
    rw [List.map_cons, List.map_cons]
    by_cases e : j = k
    · rw [if_pos e, if_pos e]
      exact .cons r (t.over k r)
    · rw [if_neg e, if_neg e]
      exact .cons r1 (t.over k r)
theorem RpP.put {kvs : List (L2.Key × V)} {ps : List (L2.Key × D)} (h : RpP K F kvs ps) (k : L2.Key) {v : V} {d : D} (r : Rp K F v d) : RpP K F (putK kvs k v) (putD ps k d) := by
  unfold putK putD
  rw [h.any k]
  split
  · exact h.over k r
  · exact h.app (.cons r .nil)
end
/-- the dict of the pairs, one after the other -/
def dictOf (ys : List D) : List (L2.Key × D) := ys.foldl (fun ps y => match y with
  | .tuple [k, d] => (keyOfD k).elim ps fun k => putD ps k d
  | _ => ps) []
theorem dictOf_snoc (ys : List D) (k : L2.Key) (d : D) : dictOf (ys ++ [.tuple [keyD k, d]]) = putD (dictOf ys) k d := by
  unfold dictOf
  rw [List.foldl_append]
  cases k <;> rfl
def mPair (mk mv : Ev → Out D) : Ev → Out D := fun ρ => (mk ρ).bind fun k ρ1 => if (keyOfD k).isSome = true then (mv ρ1).bind fun d ρ2 => .ok (.tuple [k, d]) ρ2 else .bad
structure DictRel (K : Fg) (F : Hp) (kvs : List (L2.Key × V)) (ys : List D) : Prop where
  rp : RpP K F kvs (dictOf ys)
  len : kvs.length ≤ ys.length
theorem dictStep {X : Cx} {S : Sg} {mk mv : Ev → Out D} {Dn : Addr} {B' : Base} {σ5 : Sts} {F4 H4 : Hp} {ρ5 : Ev} {u : HO} {ys : List D} {N : Hp → Prop} {n : Nat} (hn : n ≤ 16777216) (I : SInv X.K S B' σ5 F4 H4 ρ5) (keep : ∀ F7 H7 ρ7, SInv X.K S B' σ5 F7 H7 ρ7 → H7 Dn = some u) (ac : ∃ kvs, u = .dK kvs ∧ DictRel X.K F4 kvs ys) (hy : ys.length < n)
    (h : Sat (mPair mk mv ρ5) (fun y ρ7 => ∀ F7 H7 u', SInv X.K S B' σ5 F7 H7 ρ7 → Same F4 F7 → (∃ kvs, u' = .dK kvs ∧ DictRel X.K F7 kvs (ys ++ [y])) → N (upd H7 Dn u')) (fun _ _ => False)) : tbD (tME X.K X.mg W0 S mk) (tME X.K X.mg W0 S mv) Dn σ5 H4 N := by
  have hsz := sizeLine_eq
  obtain ⟨kvs, rfl, rel⟩ := ac
  refine ⟨B', F4, ρ5, I, (Sat.bind h).mono (fun k ρ6 h6 F6 H6 y I6 s6 r6 => ?_) fun _ _ z => z.elim⟩
  have h6 : Sat (if (keyOfD k).isSome = true then (mv ρ6).bind fun d ρ2 => Out.ok (PyData.tuple [k, d]) ρ2 else .bad) _ _ := h6
  split at h6
  · rename_i ok
    obtain ⟨kk, ek⟩ := Option.isSome_iff_exists.mp ok
    have e := keyOfD_eq ek
    subst e
    refine ⟨B', F6, ρ6, I6, (Sat.bind h6).mono (fun d ρ7 h7 F7 H7 z I7 s7 r7 => ?_) fun _ _ z => z.elim⟩
    refine ⟨kvs, kk, rp_keyD r6, keep F7 H7 ρ7 I7, by have := rel.len; omega, h7 F7 H7 _ I7 (s6.trans s7) ⟨_, rfl, ?_, ?_⟩⟩
    · rw [dictOf_snoc]
      exact (rel.rp.up (s6.trans s7)).put kk r7
    · have := L2.length_putK kvs kk z
      have := rel.len
      rw [List.length_append]
      simp
      omega
  · exact h6.elim
/-- {k: v for target in iter if ..} -/
def mDc1 (mi : Ev → Out (List D)) (g : Ev → D → Option Ev) (mt : Ev → Out Bool) (mk mv : Ev → Out D) (vs : List Nat) : Ev → Out D := fun ρ => (mi ρ).bind fun items ρ1 =>
  ((noE (compM g mt (mPair mk mv) vs items (wipeE ρ1 vs))).bind fun ys ρ2 => Out.ok ys (restE ρ1 ρ2 vs)).bind fun ys ρ3 => .ok (.dict (encD (dictOf ys))) ρ3
section
variable {X : Cx} {W : WX} {S : Sg} {kx vx tg iter : Expr} {ifs : List Expr} {scope : Scope} {oS : List (Str × Nat)} {pos : Pos} {mi : Ev → Out (List D)} {g : Ev → D → Option Ev} {t : TG} {mt : Ev → Out Bool} {mk mv : Ev → Out D}
theorem me_dc1 (hc : X.calm = true) (hN : X.N.Nodup) (hi : MI X W S tg iter mi) (ok : blkC X.N X.env.scope scope oS = true) (hv : (oS.map (·.2)).all (fun i => knd S i == 0) = true)
    (hg : ∀ (s : Shared) (H : Hp) (C : Addr) (cl : List (Str × Addr)) (fp : List Addr), MG (X.blk s H scope (compEnvC scope cl C X.env) fp) S tg t (oS.map (·.2)) g)
    (ht : ∀ (s : Shared) (H : Hp) (C : Addr) (cl : List (Str × Addr)) (fp : List Addr), MTs (X.blk s H scope (compEnvC scope cl C X.env) fp) W0 S ifs mt)
    (hk : ∀ (s : Shared) (H : Hp) (C : Addr) (cl : List (Str × Addr)) (fp : List Addr), ME (X.blk s H scope (compEnvC scope cl C X.env) fp) W0 S kx mk)
    (he : ∀ (s : Shared) (H : Hp) (C : Addr) (cl : List (Str × Addr)) (fp : List Addr), ME (X.blk s H scope (compEnvC scope cl C X.env) fp) W0 S vx mv) (s0 : Shared := X.s_0) (hs : ∀ x, foldedSetIterable iter X.env x = pure x := by intro _; rfl) :
    ME X W S (.DictComp kx vx [⟨tg, iter, ifs, 0⟩] scope pos) (mDc1 mi g mt mk mv (oS.map (·.2))) := by
  obtain ⟨w, pw, qw⟩ := hi.ex
  have hv' : ∀ i ∈ oS.map (·.2), knd S i = 0 := fun i hi => by
    have := List.all_eq_true.mp hv i hi
    simpa using this
  have pe := pe_dc1 (kx := kx) (vx := vx) (ifs := ifs) (tt := tMT X.K X.mg W0 S mt) (tk := tME X.K X.mg W0 S mk) (tv := tME X.K X.mg W0 S mv) (pos := pos) hc hN pw (blkOk_by ok) (fun s H C cl fp => (hg s H C cl fp).pg) (fun s H C cl fp => (ht s H C cl fp).run) (fun s H C cl fp => (hk s H C cl fp).run) (fun s H C cl fp => (he s H C cl fp).run) hs
  refine ⟨_, pe_frz pe, fun B F H σ ρ Q I h => ?_⟩
  refine qw B F H σ ρ _ I ((Sat.bind h).mono (fun items ρ1 h1 F1 H1 J I1 s1 wd hl => fun Dn hD => ?_) fun _ _ z => z)
  refine comp_sat (me := mPair mk mv) (Ac := fun F u ys => ∃ kvs, u = .dK kvs ∧ DictRel X.K F kvs ys) hv' (fun B F H σ ρ v d ρ1 Q I r e k => (hg s0 H 0 [] []).ok B F H σ ρ v d ρ1 Q I r e k) I1 wd hD (fun F F' u ys s ⟨kvs, e, r⟩ => ⟨kvs, e, r.rp.up s, r.len⟩) (fun F u ys ⟨kvs, e, r⟩ => e ▸ soft_dK) ⟨[], rfl, .nil, Nat.le_refl _⟩
    (fun B' σ5 F4 H4 ρ5 u ys N I5 keep ac hy hh => dictStep hl I5 keep ac hy hh) ((Sat.bind h1).mono (fun ys ρ3 h3 F' H' u I' s' hF hH ac hB hn => ?_) fun _ _ z => z)
  obtain ⟨kvs, rfl, rel⟩ := ac
  have h3 : EKo X.K S B σ F Q (.dict (encD (dictOf ys))) ρ3 := h3
  refine ⟨Dn, _, rfl, hH, trivial, fun od => ?_⟩
  have sF := same_upd (o := HO.frz od (.dK kvs)) hF
  exact h3 _ _ _ (I'.freezeO hF hH hB hn soft_dK soft_frz) ((s1.trans s').trans sF) (.dct upd_same (rel.rp.up sF).enc)
end
end MW
namespace MW
open PySem PySem.Spec PyProof.Rows L2
theorem keepFacts {K : Fg} {S : Sg} {B : Base} {σ5 : Sts} {F4 H4 : Hp} {ρ5 : Ev} {Dn : Addr} {u : HO} (I4 : SInv K S B σ5 F4 H4 ρ5) (n4 : F4 Dn = none) (d4 : H4 Dn = some u) (hn4 : ∀ j a, Held S σ5 H4 ρ5 j a → a ≠ Dn) (so : Soft u) {σ7 : Sts} {F7 H7 : Hp} {ρ7 : Ev} (I7 : SInv K S (reb B.T S σ5 F4 H4 ρ5) σ7 F7 H7 ρ7) :
    H7 Dn = some u ∧ F7 Dn = none ∧ (∀ j a, Held S σ7 H7 ρ7 j a → a ≠ Dn) ∧ SInv K S B σ7 F7 H7 ρ7 := by
  refine ⟨I7.ext.hs Dn _ d4 (reb_no I4.ext.tb hn4 d4 so), ?_, fun j a hh z => ?_, I4.back I7⟩
  · cases q : F7 Dn with
    | none => rfl
    | some o =>
      rcases I7.ext.fr Dn o q with z | z | ⟨j, _, z⟩
      · rw [show F4 Dn = some o from z] at n4; cases n4
      · rw [show H4 Dn = none from z] at d4; cases d4
      · exact absurd rfl (hn4 j Dn z)
  · subst z
    obtain ⟨_, _, o⟩ := I7.heldAt hh
    rcases o with ⟨z', _⟩ | o
    · exact reb_no I4.ext.tb hn4 d4 so z'
    · rw [show H4 a = none from o] at d4; cases d4
/-- the lists, one behind the other -/
def flatL (ys : List D) : List D := ys.flatMap fun y => match y with
  | .list zs => zs
  | _ => []
theorem flatL_snoc (ys zs : List D) : flatL (ys ++ [.list zs]) = flatL ys ++ zs := by
  unfold flatL
  rw [List.flatMap_append]
  simp
/-- the inner clause: the list of what it gives -/
def mIn (mi1 : Ev → Out (List D)) (g1 : Ev → D → Option Ev) (mt1 : Ev → Out Bool) (me1 : Ev → Out D) (vs1 : List Nat) : Ev → Out D := fun ρ => (mi1 ρ).bind fun items ρ1 =>
  if items.length ≤ 4096 then ((noE (compM g1 mt1 me1 vs1 items (wipeE ρ1 vs1))).bind fun zs ρ2 => Out.ok zs (restE ρ1 ρ2 vs1)).bind fun zs ρ3 => if zs.length ≤ 4096 then .ok (.list zs) ρ3 else .bad else .bad
def mDc2 (mi : Ev → Out (List D)) (g : Ev → D → Option Ev) (mt : Ev → Out Bool) (mi1 : Ev → Out (List D)) (g1 : Ev → D → Option Ev) (mt1 : Ev → Out Bool) (mk mv : Ev → Out D) (vs vs1 : List Nat) : Ev → Out D := fun ρ => (mi ρ).bind fun items ρ1 =>
  if items.length ≤ 4096 then ((noE (compM g mt (mIn mi1 g1 mt1 (mPair mk mv) vs1) vs items (wipeE ρ1 vs))).bind fun ys ρ2 => Out.ok ys (restE ρ1 ρ2 vs)).bind fun ys ρ3 => .ok (.dict (encD (dictOf (flatL ys)))) ρ3 else .bad
section
variable {X : Cx} {W : WX} {S : Sg} {kx vx tg iter tg1 iter1 : Expr} {ifs ifs1 : List Expr} {scope : Scope} {oS : List (Str × Nat)} {vs1 : List Nat} {pos : Pos} {mi mi1 : Ev → Out (List D)} {g g1 : Ev → D → Option Ev} {t t1 : TG} {mt mt1 : Ev → Out Bool} {mk mv : Ev → Out D}
theorem me_dc2 (hc : X.calm = true) (hN : X.N.Nodup) (hi : MI X W S tg iter mi) (ok : blkC X.N X.env.scope scope oS = true) (hv : (oS.map (·.2)).all (fun i => knd S i == 0) = true) (hsub : vs1.all (fun i => (oS.map (·.2)).contains i) = true)
    (hg : ∀ (s : Shared) (H : Hp) (C : Addr) (cl : List (Str × Addr)) (fp : List Addr), MG (X.blk s H scope (compEnvC scope cl C X.env) fp) S tg t (oS.map (·.2)) g)
    (ht : ∀ (s : Shared) (H : Hp) (C : Addr) (cl : List (Str × Addr)) (fp : List Addr), MTs (X.blk s H scope (compEnvC scope cl C X.env) fp) W0 S ifs mt)
    (hi1 : ∀ (s : Shared) (H : Hp) (C : Addr) (cl : List (Str × Addr)) (fp : List Addr), MI (X.blk s H scope (compEnvC scope cl C X.env) fp) W0 S tg1 iter1 mi1)
    (hg1 : ∀ (s : Shared) (H : Hp) (C : Addr) (cl : List (Str × Addr)) (fp : List Addr), MG (X.blk s H scope (compEnvC scope cl C X.env) fp) S tg1 t1 vs1 g1)
    (ht1 : ∀ (s : Shared) (H : Hp) (C : Addr) (cl : List (Str × Addr)) (fp : List Addr), MTs (X.blk s H scope (compEnvC scope cl C X.env) fp) W0 S ifs1 mt1)
    (hk : ∀ (s : Shared) (H : Hp) (C : Addr) (cl : List (Str × Addr)) (fp : List Addr), ME (X.blk s H scope (compEnvC scope cl C X.env) fp) W0 S kx mk)
    (he : ∀ (s : Shared) (H : Hp) (C : Addr) (cl : List (Str × Addr)) (fp : List Addr), ME (X.blk s H scope (compEnvC scope cl C X.env) fp) W0 S vx mv) (s0 : Shared := X.s_0) (hs : ∀ x, foldedSetIterable iter X.env x = pure x := by intro _; rfl) (hs1 : ∀ env x, foldedSetIterable iter1 env x = pure x := by intro _ _; rfl) :
    ME X W S (.DictComp kx vx [⟨tg, iter, ifs, 0⟩, ⟨tg1, iter1, ifs1, 0⟩] scope pos) (mDc2 mi g mt mi1 g1 mt1 mk mv (oS.map (·.2)) vs1) := by
  obtain ⟨w, pw, qw⟩ := hi.ex
  have hv' : ∀ i ∈ oS.map (·.2), knd S i = 0 := fun i hi => by
    have := List.all_eq_true.mp hv i hi
    simpa using this
  have hs' : ∀ i ∈ vs1, i ∈ oS.map (·.2) := fun i hi => List.contains_iff_mem.mp (List.all_eq_true.mp hsub i hi)
  have hv1 : ∀ i ∈ vs1, knd S i = 0 := fun i hi => hv' i (hs' i hi)
  have pe := pe_dc2 (kx := kx) (vx := vx) (ifs := ifs) (ifs1 := ifs1) (tt := tMT X.K X.mg W0 S mt) (tt1 := tMT X.K X.mg W0 S mt1) (wi1 := tMI X.K X.mg W0 S mi1) (tk := tME X.K X.mg W0 S mk) (tv := tME X.K X.mg W0 S mv) (pos := pos) hc hN pw (blkOk_by ok) hs' (fun s H C cl fp => (hg s H C cl fp).pg) (fun s H C cl fp => (ht s H C cl fp).run) (fun s H C cl fp => (hi1 s H C cl fp).run) (fun s H C cl fp => (hg1 s H C cl fp).pg) (fun s H C cl fp => (ht1 s H C cl fp).run) (fun s H C cl fp => (hk s H C cl fp).run) (fun s H C cl fp => (he s H C cl fp).run) hs hs1
  refine ⟨_, pe_frz pe, fun B F H σ ρ Q I h => ?_⟩
  refine qw B F H σ ρ _ I ((Sat.bind h).mono (fun items ρ1 h1 F1 H1 J I1 s1 wd hl => fun Dn hD => ?_) fun _ _ z => z)
  have h1 : Sat (if items.length ≤ 4096 then ((noE (compM g mt (mIn mi1 g1 mt1 (mPair mk mv) vs1) (oS.map (·.2)) items (wipeE ρ1 (oS.map (·.2))))).bind fun ys ρ2 => Out.ok ys (restE ρ1 ρ2 (oS.map (·.2)))).bind fun ys ρ3 => Out.ok (PyData.dict (encD (dictOf (flatL ys)))) ρ3 else .bad) (EKo X.K S B σ F Q) (XKo X W S B σ F) := h1
  split at h1
  · rename_i few
    have hB : B.H Dn = none := I1.bnone hD
    refine walk_sat (ys0 := []) (me := mIn mi1 g1 mt1 (mPair mk mv) vs1) (Ac := fun F u ys => (flatL ys).length ≤ 4096 * ys.length ∧ ∃ kvs, u = .dK kvs ∧ DictRel X.K F kvs (flatL ys)) hv' (fun B F H σ ρ v d ρ1 Q I r e k => (hg s0 H 0 [] []).ok B F H σ ρ v d ρ1 Q I r e k) (I1.newH hD) wd (Same.free I1.same hD) upd_same
      (fun i a q => I1.heldNe hD i a (held_same (fun c ec => by rw [upd_ne (I1.heldNe hD i c (I1.topHeld q.1 q.2.1 ec))]) q)) (fun F F' u ys s ⟨l, kvs, e, r⟩ => ⟨l, kvs, e, r.rp.up s, r.len⟩) (fun F u ys ⟨l, kvs, e, r⟩ => e ▸ soft_dK) ⟨Nat.zero_le _, [], rfl, .nil, Nat.le_refl _⟩ (fun σ5 F4 H4 ρ5 u ys N hl4 I4 n4 d4 hn4 ac hh => ?_)
      ((Sat.bind h1).mono (fun ys ρ3 h3 F' H' u I' s' hF hH ac hn => ?_) fun _ _ z => z)
    · -- the inner clause
      obtain ⟨lb, ac⟩ := ac
      refine ⟨_, F4, ρ5, I4.into, (Sat.bind hh).mono (fun items1 ρ6 h6 F5 H5 J1 I5 s5 wd1 hl1 => ?_) fun _ _ z => z.elim⟩
      obtain ⟨d5, n5, hn5, I5⟩ := keepFacts I4 n4 d4 hn4 (let ⟨kvs, e, _⟩ := ac; e ▸ soft_dK) I5
      have h6 : Sat (if items1.length ≤ 4096 then ((noE (compM g1 mt1 (mPair mk mv) vs1 items1 (wipeE ρ6 vs1))).bind fun zs ρ2 => Out.ok zs (restE ρ6 ρ2 vs1)).bind fun zs ρ3 => if zs.length ≤ 4096 then Out.ok (PyData.list zs) ρ3 else .bad else .bad) _ _ := h6
      split at h6
      · rename_i few1
        refine walk_sat (ys0 := flatL ys) (me := mPair mk mv) (Ac := fun F u zs => ∃ kvs, u = .dK kvs ∧ DictRel X.K F kvs zs) hv1 (fun B F H σ ρ v d ρ1 Q I r e k => (hg1 s0 H 0 [] []).ok B F H σ ρ v d ρ1 Q I r e k) I5 wd1 n5 d5 hn5 (fun F F' u ys s ⟨kvs, e, r⟩ => ⟨kvs, e, r.rp.up s, r.len⟩) (fun F u ys ⟨kvs, e, r⟩ => e ▸ soft_dK) (let ⟨kvs, e, r⟩ := ac; ⟨kvs, e, r.rp.up s5, r.len⟩)
          (fun σ7 F7 H7 ρ7 u7 zs N7 hl7 I7 n7 d7 hn7 ac7 hh7 => ?_) ((Sat.bind h6).mono (fun zs ρ8 h8 F8 H8 u8 I8 s8 n8 d8 ac8 hn8 => ?_) fun _ _ z => z)
        · refine dictStep (B' := reb B.T S σ7 F7 H7 ρ7) (n := (flatL ys).length + items1.length) ?_ I7.into (fun F9 H9 ρ9 I9 => (keepFacts I7 n7 d7 hn7 (let ⟨kvs, e, _⟩ := ac7; e ▸ soft_dK) I9).1) ac7 hl7 (hh7.mono (fun y ρ9 z F9 H9 u9 I9 s9 ac9 => ?_) fun _ _ z => z)
          · have : ys.length < items.length := by simpa using hl4
            have : 4096 * ys.length + 4096 ≤ 4096 * items.length := by omega
            omega
          · obtain ⟨d9, n9, hn9, I9⟩ := keepFacts I7 n7 d7 hn7 (let ⟨kvs, e, _⟩ := ac7; e ▸ soft_dK) I9
            exact z F9 _ u9 (I9.setFree n9 hB hn9 fun o0 e => by rw [d9] at e; cases e; exact (let ⟨kvs, e, _⟩ := ac7; e ▸ soft_dK)) s9 n9 upd_same (fun j a q => hn9 j a (held_same (fun c ec => by rw [upd_ne (hn9 j c (I9.topHeld q.1 q.2.1 ec))]) q)) ac9
        · have h8 : Sat (if zs.length ≤ 4096 then Out.ok (PyData.list zs) ρ8 else .bad) _ _ := h8
          split at h8
          · rename_i few2
            refine h8 F8 H8 u8 I8 (s5.trans s8) n8 d8 hn8 ⟨?_, ?_⟩
            · rw [flatL_snoc, List.length_append, List.length_append]
              show _ ≤ 4096 * (ys.length + 1)
              omega
            · rw [flatL_snoc]; exact ac8
          · exact h8.elim
      · exact h6.elim
    · obtain ⟨_, kvs, rfl, rel⟩ := ac
      have h3 : EKo X.K S B σ F Q (.dict (encD (dictOf (flatL ys)))) ρ3 := h3
      refine ⟨Dn, _, rfl, hH, trivial, fun od => ?_⟩
      have sF := same_upd (o := HO.frz od (.dK kvs)) hF
      exact h3 _ _ _ (I'.freezeO hF hH hB hn soft_dK soft_frz) ((s1.trans s').trans sF) (.dct upd_same (rel.rp.up sF).enc)
  · exact h1.elim
end
end MW
namespace MW
open PySem PySem.Spec PyProof.Rows L2
theorem hu1 {X : Cx} (h : X.A.units + 80 < cLine) : X.A.units + 1 < cLine := by omega
def findD (ps : List (D × D)) (k : L2.Key) : Option D := (ps.find? fun p => decide (keyOfD p.1 = some k)).map (·.2)
theorem keyOfD_keyD (k : L2.Key) : keyOfD (keyD k) = some k := by cases k <;> rfl
/-- what is there stands for what is found in the data -/
def ORp (K : Fg) (F : Hp) : Option V → Option D → Prop
  | none, none => True
  | some v, some d => Rp K F v d
  | _, _ => False
theorem rpK_find {K : Fg} {F : Hp} (k : L2.Key) : ∀ {kvs : List (L2.Key × V)} {ps : List (D × D)}, RpK K F kvs ps → ORp K F (valV kvs k) (findD ps k)
  | _, _, .nil => trivial
  | _, _, .cons (k := j) r t => by
    have ih := rpK_find k t
    unfold findD at ih ⊢
    by_cases e : j = k
    · subst e
      rw [valV_pos rfl, List.find?_cons_of_pos (by rw [keyOfD_keyD]; simp)]
      exact r
    · rw [valV_neg (p := (j, _)) e, List.find?_cons_of_neg (by rw [keyOfD_keyD]; simpa using e)]
      exact ih
def gDGet : D → D → Option D
  | .dict ps, k => if realD ps = true then (keyOfD k).bind fun kk => findD ps kk else none
  | _, _ => none
def mDGet1 (mo mk : Ev → Out D) : Ev → Out D := fun ρ => (mo ρ).bind fun d ρ1 => match d with
  | .dict ps => if realD ps = true then (mk ρ1).bind fun k ρ2 => Out.of ((keyOfD k).map fun kk => (findD ps kk).getD .none) ρ2 else .bad
  | _ => .bad
section
variable {X : Cx} {W : WX} {S : Sg} {o i e : Expr} {pos apos cpos : Pos} {mo mi : Ev → Out D}
theorem rp_dict {K : Fg} {F H : Hp} {v : V} {ps : List (D × D)} (s : Same F H) (r : Rp K F v (.dict ps)) (real : realD ps = true) : ∃ a kvs, v = .ref a ∧ Rd H a (.dK kvs) ∧ RpK K F kvs ps := by
  cases r with
  | dct h r => exact ⟨_, _, rfl, .inr ⟨_, s _ _ h⟩, r⟩
  | ins _ _ _ => exact absurd real Bool.false_ne_true
theorem me_dget (hu : X.A.units + 1 < cLine) (ho : ME X W S o mo) (hi : ME X W S i mi) (hs : NoSl i) : ME X W S (.Subscript o i pos) (mBin gDGet mo mi) := by
  obtain ⟨t, pt, q⟩ := ho.ex
  obtain ⟨t', pt', q'⟩ := hi.ex
  refine ⟨_, pe_dget hu pt pt' hs, fun B F H σ ρ Q I h => ?_⟩
  refine q B F H σ ρ _ I ((Sat.bind h).mono (fun d ρ1 h1 F1 H1 x I1 s1 r1 => ?_) fun _ _ z => z)
  refine q' B F1 H1 σ ρ1 _ I1 ((Sat.bind h1).mono (fun k ρ2 h2 F2 H2 y I2 s2 r2 => ?_) fun _ _ z => XKo.up s1 z)
  obtain ⟨z, hz, h3⟩ := sat_of h2
  unfold gDGet at hz
  split at hz
  · split at hz
    rotate_left
    · cases hz
    rename_i real
    obtain ⟨kk, e1, e2⟩ := Option.bind_eq_some_iff.mp hz
    have e := keyOfD_eq e1
    subst e
    obtain ⟨a, kvs, rfl, ha, r⟩ := rp_dict (s2.trans I2.same) r1 real
    have f := rpK_find kk (r.up s2)
    rw [e2] at f
    cases hv : valV kvs kk with
    | none => rw [hv] at f; exact f.elim
    | some v =>
      rw [hv] at f
      refine ⟨a, v, rfl, ?_, h3 F2 H2 v I2 (s1.trans s2) f⟩
      rw [rp_keyD r2, ← hv]
      exact .inl ⟨_, _, ha, rfl, rfl⟩
  · cases hz
theorem me_dget1 (hu : X.A.units + 1 < cLine) (ho : ME X W S o mo) (he : ME X W S e mi) (m : M1 X o "get" apos e cpos) : ME X W S (.Call (.Attribute o "get" apos) [e] [] cpos) (mDGet1 mo mi) := by
  obtain ⟨t, pt, q⟩ := ho.ex
  obtain ⟨t', pt', q'⟩ := he.ex
  refine ⟨_, pe_dget1 hu pt pt' m, fun B F H σ ρ Q I h => ?_⟩
  refine q B F H σ ρ _ I ((Sat.bind h).mono (fun d ρ1 h1 F1 H1 x I1 s1 r1 => ?_) fun _ _ z => z)
  cases d with
  | dict ps =>
    have h1 : Sat (if realD ps = true then (mi ρ1).bind fun k ρ2 => Out.of ((keyOfD k).map fun kk => (findD ps kk).getD .none) ρ2 else .bad) (EKo X.K S B σ F Q) (XKo X W S B σ F) := h1
    by_cases real : realD ps = true
    rotate_left
    · rw [if_neg real] at h1; exact h1.elim
    rw [if_pos real] at h1
    obtain ⟨a, kvs, rfl, ha, r⟩ := rp_dict I1.same r1 real
    refine ⟨a, rfl, .inl ⟨kvs, ha⟩, q' B F1 H1 σ ρ1 _ I1 ((Sat.bind h1).mono (fun k ρ2 h2 F2 H2 y I2 s2 r2 => ?_) fun _ _ z => XKo.up s1 z)⟩
    obtain ⟨z, hz, h3⟩ := sat_of h2
    obtain ⟨kk, ek, rfl⟩ := Option.map_eq_some_iff.mp (show (keyOfD k).map (fun kk => (findD ps kk).getD .none) = some z from hz)
    have e := keyOfD_eq ek
    subst e
    obtain ⟨a', kvs', e2, ha2, r'⟩ := rp_dict (s2.trans I2.same) r1 real
    cases e2
    have f := rpK_find kk (r'.up s2)
    refine ⟨valV kvs' kk, by rw [rp_keyD r2]; exact .inl ⟨_, _, ha2, rfl, rfl⟩, ?_⟩
    cases hv : valV kvs' kk with
    | none =>
      cases hd : findD ps kk with
      | none => rw [hd] at h3; exact h3 F2 H2 _ I2 (s1.trans s2) .non
      | some d => rw [hv, hd] at f; exact f.elim
    | some v =>
      cases hd : findD ps kk with
      | none => rw [hv, hd] at f; exact f.elim
      | some d => rw [hv, hd] at f; rw [hd] at h3; exact h3 F2 H2 _ I2 (s1.trans s2) f
  | _ => exact h1.elim
end
end MW
namespace MW
open PySem PySem.Spec PyProof.Rows L2
end MW
namespace MW
open PySem PySem.Spec PyProof.Rows L2
section
variable {X : Cx} {W : WX} {S : Sg}
theorem EKo.dct {B : Base} {σ : Sts} {F H : Hp} {ρ : Ev} {Q : VK} {kvs : List (L2.Key × V)} {ps : List (D × D)} {p : Addr} {K : Fg} (h : EKo K S B σ F Q (.dict ps) ρ) (I : SInv K S B σ F H ρ) (r : RpK K F kvs ps) (r' : ∀ F', Same F F' → RpK K F' kvs ps) (hp : H p = none) : ∃ d u, V.ref p = .ref d ∧ upd H p (.dK kvs) d = some u ∧ L2.Mut (some u) ∧ ∀ od, Q (.ref p) (upd (upd H p (.dK kvs)) d (.frz od u)) := by
  have hF : F p = none := Same.free I.same hp
  refine ⟨p, _, rfl, upd_same, trivial, fun od => ?_⟩
  rw [upd_upd]
  exact h _ _ _ (I.newF hp) (same_upd hF) (.dct upd_same (r' _ (same_upd hF)))
end
end MW
namespace MW
open PySem PySem.Spec PyProof.Rows L2
end MW
namespace MW
open PySem PySem.Spec PyProof.Rows L2
end MW
namespace MW
open PySem PySem.Spec PyProof.Rows L2
section
variable {prog : Program} {w : World} {A : Around} {s0 : Shared} {R : Result → Shared → Prop} {xs ys : Array Value} {a b z TI TO i1 i2 S : Addr} {h0 : Heap} {J : List Addr → Heap → Prop}
/-- the pairs that are in the list by now -/
structure ZPairs (xs ys : Array Value) (z TO i1 i2 S : Addr) (h0 h : Heap) (ts : List Addr) (c : Nat) : Prop where
  lst : h.get? S = some { cls := .type "list", data := .seq (ts.map Value.ref).toArray c }
  pair : ∀ j (hj : j < ts.length), ∃ x y, xs[j]? = some x ∧ ys[j]? = some y ∧ IsPair h ts[j] x y
  fresh : ∀ t ∈ ts, t ≠ z ∧ t ≠ i1 ∧ t ≠ i2 ∧ t ≠ S ∧ h0.get? t = none
  old : ∀ c o, c ≠ z → c ≠ TO → c ≠ i1 → c ≠ i2 → c ≠ S → h0.get? c = some o → h.get? c = some o
theorem ZPairs.keep {h h' : Heap} {ts : List Addr} {c : Nat} (p : ZPairs xs ys z TO i1 i2 S h0 h ts c) (hS : S ≠ z ∧ S ≠ TO ∧ S ≠ i1 ∧ S ≠ i2) (k : ∀ c o, c ≠ z → c ≠ i1 → c ≠ i2 → h.get? c = some o → h'.get? c = some o) : ZPairs xs ys z TO i1 i2 S h0 h' ts c :=
  ⟨k _ _ hS.1 hS.2.2.1 hS.2.2.2 p.lst, fun j hj => by
    obtain ⟨x, y, e1, e2, e3⟩ := p.pair j hj
    obtain ⟨n1, n2, n3, _, _⟩ := p.fresh _ (List.getElem_mem hj)
    exact ⟨x, y, e1, e2, k _ _ n1 n2 n3 e3⟩, p.fresh, fun c o m1 m2 m3 m4 m5 q => k _ _ m1 m3 m4 (p.old c o m1 m2 m3 m4 m5 q)⟩
/-- one more -/
theorem ZPairs.push {h : Heap} {ts : List Addr} {c T : Nat} {x y : Value} (p : ZPairs xs ys z TO i1 i2 S h0 h ts c) (g : IsPair h T x y) (n : T ≠ z ∧ T ≠ i1 ∧ T ≠ i2 ∧ T ≠ S ∧ h0.get? T = none) (e1 : xs[ts.length]? = some x) (e2 : ys[ts.length]? = some y) :
    ZPairs xs ys z TO i1 i2 S h0 (h.update S (Obj.mapSeq fun v => v.push (.ref T))) (ts ++ [T]) (if ((ts.map Value.ref).toArray.push (.ref T)).size == (ts.map Value.ref).toArray.size then c else c + 1) := by
  have other : ∀ c, c ≠ S → (h.update S (Obj.mapSeq fun v => v.push (.ref T))).get? c = h.get? c := fun c hc => Heap.get?_update_other h _ (Ne.symm hc)
  refine ⟨?_, fun j hj => ?_, fun t ht => ?_, fun c o m1 m2 m3 m4 m5 q => (other c m5).trans (p.old c o m1 m2 m3 m4 m5 q)⟩
  · have := Heap.get?_update_self (Obj.mapSeq fun v => v.push (.ref T)) p.lst rfl
    rw [List.map_append, List.map_singleton, ← List.push_toArray]
    exact this
  · by_cases z : j < ts.length
    · obtain ⟨x', y', q1, q2, q3⟩ := p.pair j z
      refine ⟨x', y', q1, q2, ?_⟩
      rw [List.getElem_append_left z]
      exact (other _ (p.fresh _ (List.getElem_mem z)).2.2.2.1).trans q3
    · have ej : j = ts.length := by rw [List.length_append, List.length_singleton] at hj; omega
      subst ej
      refine ⟨x, y, e1, e2, ?_⟩
      rw [List.getElem_append_right (Nat.le_refl _)]
      simp only [Nat.sub_self, List.getElem_singleton]
      exact (other _ n.2.2.2.1).trans g
  · rcases List.mem_append.mp ht with z | z
    · exact p.fresh t z
    · rw [List.mem_singleton.mp z]; exact n
/-- where the walk stands -/
structure ZWalk (xs ys : Array Value) (a b z TI i1 i2 : Addr) (i : Nat) (h : Heap) : Prop where
  ti : IsPair h TI (.ref i1) (.ref i2)
  one : h.IsTupleIter i1 a i
  two : h.IsTupleIter i2 b i
  ta : h.IsTuple a xs
  tb : h.IsTuple b ys
theorem ZWalk.at {i : Nat} {h h' : Heap} (w : ZWalk xs ys a b z TI i1 i2 i h) (k : ∀ c o, (c = TI ∨ c = i1 ∨ c = i2 ∨ c = a ∨ c = b) → h.get? c = some o → h'.get? c = some o) : ZWalk xs ys a b z TI i1 i2 i h' :=
  ⟨k _ _ (.inl rfl) w.ti, w.one.at fun o q => k _ o (.inr (.inl rfl)) q, w.two.at fun o q => k _ o (.inr (.inr (.inl rfl))) q, w.ta.at fun o q => k _ o (.inr (.inr (.inr (.inl rfl)))) q, w.tb.at fun o q => k _ o (.inr (.inr (.inr (.inr rfl)))) q⟩
end
end MW
namespace MW
open PySem PySem.Spec PyProof.Rows L2
end MW
namespace MW
open PySem PySem.Spec PyProof.Rows L2
end MW
namespace MW
open PySem PySem.Spec PyProof.Rows L2
end MW
namespace MW
open PySem PySem.Spec PyProof.Rows L2
variable {gq : Bool}
def FkO (K : Fg) (S : Sg) (B : Base) (F : Hp) (D : Ends) (i : Nat) : Fl → Ev → Prop := fun fl ρ' => fl = .nx ∧ ∀ F' H' σ', SInv K S B σ' F' H' ρ' → Same F F' → ∀ p, σ'[i]? = some (some (.ref p)) → D.rt (.ref p) H'
theorem FkO.up {K : Fg} {S : Sg} {B : Base} {F F1 : Hp} {D : Ends} {i : Nat} {fl : Fl} {ρ : Ev} (s : Same F F1) (h : FkO K S B F D i fl ρ) : FkO K S B F1 D i fl ρ := ⟨h.1, fun F' H' σ' I s' => h.2 F' H' σ' I (s.trans s')⟩
end MW
namespace MW
open PySem PySem.Spec PyProof.Rows L2
end MW
namespace MW
open PySem PySem.Spec PyProof.Rows L2
end MW
namespace MW
open PySem PySem.Spec PyProof.Rows L2
end MW
namespace MW
open PySem PySem.Spec PyProof.Rows L2
end MW
namespace MW
open PySem PySem.Spec PyProof.Rows L2
theorem RpK.at {K : Fg} {F : Hp} : ∀ {kvs : List (L2.Key × V)} {ps : List (D × D)} {i : Nat} {k : L2.Key} {v : V}, RpK K F kvs ps → kvs[i]? = some (k, v) → ∃ d, ps[i]? = some (keyD k, d) ∧ Rp K F v d
  | _, _, i, _, _, .nil, h => by simp at h
  | _, _, 0, _, _, .cons r t, h => by
    simp at h
    obtain ⟨rfl, rfl⟩ := h
    exact ⟨_, rfl, r⟩
  | _, _, i + 1, _, _, .cons r t, h => by
    obtain ⟨d, e, q⟩ := t.at (i := i) (by simpa using h)
    exact ⟨d, by simpa using e, q⟩
end MW
namespace MW
open PySem PySem.Spec PyProof.Rows L2
end MW
namespace MW
open PySem PySem.Spec PyProof.Rows L2
end MW
namespace MW
open PySem PySem.Spec PyProof.Rows L2
end MW
namespace MW
open PySem PySem.Spec PyProof.Rows L2 PySem.W
end MW
namespace MW
open PySem PySem.Spec PyProof.Rows L2
end MW
namespace MW
open PySem PySem.Spec PyProof.Rows L2
end MW
namespace MW
open PySem PySem.Spec PyProof.Rows L2
end MW
namespace MW
open PySem PySem.Spec PyProof.Rows L2
end MW
namespace PySem
end PySem
namespace MW
open PySem PySem.Spec PyProof.Rows L2
end MW
namespace MW
open PySem PySem.Spec PyProof.Rows L2
end MW
namespace MW
open PySem PySem.Spec PyProof.Rows L2
end MW
namespace MW
open PySem PySem.Spec PyProof.Rows L2 GenW
section
variable {M : Model} {A : Around} {R : GenEnd} {Y : Protocol} {n : Nat} {s₀ : Shared} {c : Code} {fs : List Frame} {s : Shared} {env : Env}
  {K : Flow → Sem PySem.Fin} {J : Value → Sem PySem.Fin} {gd : Bool → Bool} {lv : List Value → List Value}
theorem seg_For {tg iter : Expr} {body orelse : List Stmt} {pos : Pos} (hs : ∀ x, foldedSetIterable iter env x = pure x)
    (h : wpAny M (A.over c fs) (eval iter env) (fun x s1 => wpAny M (A.over c fs) (pyIter x) (fun it s2 => ∀ p kp lv2, Seg M A R Y n s₀ (.forLoop tg it body orelse env) (M.den (.forLoop tg it body orelse env))
      (.ret (fun r => ((match r with | .ok f => (.pure f : Sem Flow) | .error e => .raise e).onRaise fun (x : Value) => do
        if (← field x 1) == Value.none then unsupported "frame.own-activation:exception-without-traceback"
        setFlight x env.frame).wrap K J gd lv) none (gd false) lv2 c p kp :: fs) s2) (fun x s' => Seg M A R Y n s₀ c (J x) fs s') s1) (fun x s' => Seg M A R Y n s₀ c (J x) fs s') s) :
    Seg M A R Y n s₀ c ((exec (.For tg iter body orelse pos) env).wrap K J gd lv) fs s := by
  rw [exec_For]
  refine seg_bind_wrap (wpAny_standAt ?_)
  refine seg_bind_wrap (wpAny_mono h (fun x s1 h1 => ?_) fun _ _ z => z)
  refine seg_bind_wrap (wpAny_of_eq (hs x) ?_)
  refine seg_bind_wrap (wpAny_standAt ?_)
  refine seg_bind_wrap (wpAny_holding (wpAny_mono h1 (fun it s2 h2 => ?_) fun _ _ z => z))
  exact seg_call fun p => h2 p [] (lv [])
end
section
variable {prog : Program} {w : World} {A : Around} {R : GenEnd} {Y : Protocol} {n : Nat} {s₀ : Shared} {fs : List Frame} {s : Shared} {env : Env}
theorem seg_forLoop {tg : Expr} {it : Value} {body : List Stmt}
    (h : wpAny (model prog w) (A.over (.forLoop tg it body [] env) fs) (pyNext it) (fun r s1 => match r with
      | none => Seg (model prog w) A R Y n s₀ (.forLoop tg it body [] env) (.pure (.again (.block [] env))) fs s1
      | some v => wpAny (model prog w) (A.over (.forLoop tg it body [] env) fs) (letOwnedTupleGo tg it v) (fun _ s2 => wpAny (model prog w) (A.over (.forLoop tg it body [] env) fs) (assign tg env v) (fun _ s3 =>
          Seg (model prog w) A R Y n s₀ (.forLoop tg it body [] env) ((execs body env).wrap (fun f => match f with
            | .next | .cont => .pure (.again (.forLoop tg it body [] env))
            | .brk => .pure (.done .next)
            | .ret v => .pure (.done (.ret v))) (fun e => (do noteFrame e env; theTreesLotGoes e : Sem Unit).wrap (fun _ => .raise e) .raise id id) id id) fs s3)
          (fun x s' => Seg (model prog w) A R Y n s₀ (.forLoop tg it body [] env) ((do noteFrame x env; theTreesLotGoes x : Sem Unit).wrap (fun _ => .raise x) .raise id id) fs s') s2)
          (fun x s' => Seg (model prog w) A R Y n s₀ (.forLoop tg it body [] env) ((do noteFrame x env; theTreesLotGoes x : Sem Unit).wrap (fun _ => .raise x) .raise id id) fs s') s1)
      (fun x s' => Seg (model prog w) A R Y n s₀ (.forLoop tg it body [] env) ((do noteFrame x env; theTreesLotGoes x : Sem Unit).wrap (fun _ => .raise x) .raise id id) fs s') s) :
    Seg (model prog w) A R Y n s₀ (.forLoop tg it body [] env) ((model prog w).den (.forLoop tg it body [] env)) fs s := by
  show Seg _ A R Y n s₀ _ ((forTurn tg it body [] env).onRaise (fun x => do noteFrame x env; theTreesLotGoes x)) fs s
  have eH : ∀ e : Value, ((do noteFrame e env; theTreesLotGoes e : Sem Unit).bind fun _ => (.raise e : Sem PySem.Fin)) = (do noteFrame e env; theTreesLotGoes e : Sem Unit).wrap (fun _ => .raise e) .raise id id := fun e => by
    first | exact Sem.bind_eq_wrap _ _ | rw [Sem.bind_eq_wrap]
  rw [Sem.onRaise_eq_wrap]
  simp only [forTurn]
  refine seg_bind_wrap (wpAny_standAt ?_)
  refine seg_bind_wrap (wpAny_onRaise (wpAny_mono h (fun r s1 h1 => ?_) fun x s' hx => wpAny_standAt ?_))
  · cases r with
    | none => exact h1
    | some v =>
      refine seg_bind_wrap (wpAny_mono h1 (fun _ s2 h2 => ?_) fun x s' hx => ?_)
      · refine seg_bind_wrap (wpAny_mono h2 (fun _ s3 h3 => ?_) fun x s' hx => ?_)
        · rw [Sem.bind_eq_wrap', Sem.wrap_wrap]
          rw [Sem.wrap_congr (execs body env) _ _ (K' := fun f => match f with
            | .next | .cont => .pure (.again (.forLoop tg it body [] env))
            | .brk => .pure (.done .next)
            | .ret v => .pure (.done (.ret v))) (H' := (fun e => (do noteFrame e env; theTreesLotGoes e : Sem Unit).wrap (fun _ => .raise e) .raise id id))
            (fun f => by cases f <;> rfl) (fun e => by first | exact eH e | rfl)]
          exact h3
        · rw [← eH] at hx; exact hx
      · rw [← eH] at hx; exact hx
  · rw [← eH] at hx; exact hx
end
theorem seg_block_nil {prog : Program} {w : World} {A : Around} {R : GenEnd} {Y : Protocol} {n : Nat} {s₀ : Shared} {fs : List Frame} {s : Shared} {env : Env} {c : Code} (h : Seg (model prog w) A R Y n s₀ (.block [] env) (.pure (.done .next)) fs s) :
    Seg (model prog w) A R Y n s₀ c (.pure (.again (.block [] env))) fs s := seg_again rfl h
def tGFor (wi : TI) (g : TG) (tb : TGn) : TGn := fun D ys σ H => wi σ H fun J H1 => ∃ W : Nat → Nat → List V → L2.St → Hp → Prop, (∃ m, W 0 m ys σ H1) ∧ ∀ i m ys σ H, W i m ys σ H →
  (J.stop i H ∧ D.nx ys σ H) ∨ (J.go i H ∧ ∃ N : List V → L2.St → Hp → Prop, (∀ ys' σ' H', N ys' σ' H' → ∃ m', m' < m ∧ W (i + 1) m' ys' σ' H') ∧ ∀ x H', J.yld i H x H' → g x σ H' fun σ2 H2 => tb { D with nx := N, ct := N, bk := D.nx } ys σ2 H2)
section
variable {X : Cx}
theorem gs_for {tg iter : Expr} {body : List Stmt} {wi : TI} {g : TG} {tb : TGn} {pos : Pos} (hp : PassesOwn (model X.prog X.w) X.A X.env X.xe) (hc : X.calm = true) (hi : PI X tg iter wi) (hg : PG X tg g) (hb : GSs X body tb)
    (hs : ∀ x, foldedSetIterable iter X.env x = pure x := by intro _; rfl) : GS X (.For tg iter body [] pos) (tGFor wi g tb) := by
  refine ⟨fun A S ip R n ys s₀ c fs K J gd lv s σ H D gc hn k hI ht => ?_⟩
  refine seg_For hs ?_
  rw [gc.over]
  obtain ⟨acc0, cc0, r, I⟩ := hI
  refine wpAny_mono (hi.run _ s σ H _ I ht) (fun x s1 h1 => ?_) fun x s' hx => k.exc n s₀ x s' hx
  refine wpAny_mono h1 (fun itv s2 h2 => ?_) fun x s' hx => k.exc n s₀ x s' hx
  intro p kp lv2
  obtain ⟨it, fp, tn, Jt, H2, rfl, I2, T, st2, f2, W, ⟨m0, w0⟩, turn⟩ := h2
  have gl := fun (kk : Result → Sem PySem.Fin) => gc_loop (k := kk) (c' := .forLoop tg (.ref it) body [] X.env) (l := lv2) (kp := kp) (p := p) gc rfl rfl
  have fpS : ∀ b ∈ fp, S ≠ b := fun b hb => (f2 b hb).2.2.2.2.2 (S, lstObj acc0 cc0) (List.mem_append_right _ List.mem_cons_self)
  have stat : ∀ {H' : Hp} {acc : Array Value} {cc : Nat}, (∀ b ∈ fp, H' b = none) → ∀ b ∈ fp, FpOk X ((S, lstObj acc cc) :: ip) H' b := fun {H' acc cc} hn b hb => by
    obtain ⟨_, q1, q2, q3, q4, q5⟩ := f2 b hb
    refine ⟨hn b hb, q1, q2, q3, q4, fun p hp => ?_⟩
    rcases List.mem_append.mp hp with z | z
    · exact q5 p (List.mem_append_left _ z)
    · rcases List.mem_cons.mp z with z | z
      · rw [z]; exact fpS b hb
      · exact q5 p (List.mem_append_right _ (List.mem_cons_of_mem _ z))
  have loop : ∀ (m i n : Nat) (ys : List V) (s₀ s : Shared) (σ : L2.St) (H : Hp), n + ys.length = sizeLine → W i m ys σ H → GI X S ip ys σ H s → tn i s.heap → (∀ b ∈ fp, H b = none) →
      Seg (model X.prog X.w) A R (GY X S) n s₀ (.forLoop tg (.ref it) body [] X.env) ((model X.prog X.w).den (.forLoop tg (.ref it) body [] X.env))
        (.ret (fun r => ((match r with | .ok f => (.pure f : Sem Flow) | .error e => .raise e).onRaise (cameBack X.env)).wrap K J gd lv) none (gd false) lv2 c p kp :: fs) s := by
    intro m
    induction m using Nat.strongRecOn with
    | ind m ih =>
      intro i n ys s₀ s σ H hn w hI st fr
      have ee : ∀ (n : Nat) (s₀ : Shared) (x : Value) (s' : Shared), X.xe x s' → Seg (model X.prog X.w) A R (GY X S) n s₀ (.forLoop tg (.ref it) body [] X.env)
          ((do noteFrame x X.env; theTreesLotGoes x : Sem Unit).wrap (fun _ => .raise x) .raise id id)
          (.ret (fun r => ((match r with | .ok f => (.pure f : Sem Flow) | .error e => .raise e).onRaise (cameBack X.env)).wrap K J gd lv) none (gd false) lv2 c p kp :: fs) s' := fun n s₀ x s' hx => by
        refine seg_wrap ?_
        rw [(gl _).over]
        refine wpAny_bind (wpAny_mono (hp x s' hx) (fun _ s'' hcb => wpAny_theTreesLotGoes ?_) fun y s'' hcb => ?_)
        · exact seg_leaf (.error x) (seg_cameBack gc k hcb)
        · exact seg_leaf (.error y) (seg_cameBack gc k hcb)
      obtain ⟨acc, cc, r, I⟩ := hI
      refine seg_forLoop ?_
      rw [(gl _).over]
      rcases turn i m ys σ H w with ⟨stop, q⟩ | ⟨go, N, hN, step⟩
      · refine wpAny_mono (T.done X rfl rfl rfl hc i _ s σ H X.xe I (stat fr) st stop) (fun rr s1 hr => ?_) fun x s' hx => ee n s₀ x s' hx
        obtain ⟨hr, I1⟩ := hr
        subst hr
        exact seg_block_nil (seg_leaf (.ok .next) (k.ok n ys s₀ s1 .next hn ⟨σ, H, ⟨acc, cc, r, I1⟩, q⟩))
      · refine wpAny_mono (T.item X rfl rfl rfl hc i _ s σ H X.xe I (stat fr) st go) (fun rr s1 hr => ?_) fun x s' hx => ee n s₀ x s' hx
        obtain ⟨u, hr, h4⟩ := hr
        subst hr
        refine wpAny_mono h4 (fun _ s5 h5 => ?_) fun x s' hx => ee n s₀ x s' hx
        obtain ⟨x, H5, I5, r5, y5, st5, fr5⟩ := h5
        have I5' := I5.pinned (stat fr5) (T.obj _ _ st5)
        refine wpAny_mono (hg.run _ s5 σ H5 x u _ I5' r5 (step x H5 y5)) (fun _ s6 h6 => ?_) fun x s' hx => ee n s₀ x s' hx
        obtain ⟨σ6, H6, I6, q6⟩ := h6
        have unp : ∀ {ys' : List V} {σ' : L2.St} {H' : Hp} {s' : Shared}, GI X S (ip ++ pinsAt fp s5.heap) ys' σ' H' s' → GI X S ip ys' σ' H' s' ∧ tn (i + 1) s'.heap ∧ ∀ b ∈ fp, H' b = none := fun {ys' σ' H' s'} ⟨acc', cc', r', I'⟩ => by
          have hpin : ∀ b ∈ fp, ∀ o, s5.heap.get? b = some o → s'.heap.get? b = some o ∧ H' b = none := fun b hb o e =>
            have z := I'.pin (b, o) (List.mem_append_right _ (List.mem_cons_of_mem _ (List.mem_append_right _ (mem_pinsAt hb e))))
            ⟨z.1, z.2.1⟩
          refine ⟨⟨acc', cc', r', Inv.unpinned (pins := (S, lstObj acc' cc') :: ip) (pl := pinsAt fp s5.heap) I'⟩, T.keep _ _ _ st5 fun b hb o e => (hpin b hb o e).1, fun b hb => ?_⟩
          obtain ⟨o, e, _⟩ := T.obj _ _ st5 b hb
          exact (hpin b hb o e).2
        have gl2 := gl (fun r => ((match r with | .ok f => (.pure f : Sem Flow) | .error e => .raise e).onRaise (cameBack X.env)).wrap K J gd lv)
        refine hb.run A S (ip ++ pinsAt fp s5.heap) R n ys s₀ _ _ _ _ id id s6 σ6 H6 { D with nx := N, ct := N, bk := D.nx } ⟨gl2.pn, fun p hp => ?_, gl2.apart, gl2.over, gl2.split, gl2.guard, gl2.gd⟩ hn ⟨fun n' ys' s₀' s3 f hn' hs => ?_, fun n' s₀' x s3 hx => ee n' s₀' x s3 hx⟩ ⟨acc, cc, r, I6⟩ q6
        · rcases List.mem_append.mp hp with z | z
          · exact gc.ip p z
          · exact (fpS p.1 (of_pinsAt z).1).symm
        · cases f with
          | next =>
            obtain ⟨σ3, H3, I3, n3⟩ := hs
            obtain ⟨m', hm, w3⟩ := hN ys' σ3 H3 n3
            obtain ⟨g3, t3, f3⟩ := unp I3
            exact seg_again rfl (ih m' hm (i + 1) n' ys' s₀' s3 σ3 H3 hn' w3 g3 t3 f3)
          | cont =>
            obtain ⟨σ3, H3, I3, n3⟩ := hs
            obtain ⟨m', hm, w3⟩ := hN ys' σ3 H3 n3
            obtain ⟨g3, t3, f3⟩ := unp I3
            exact seg_again rfl (ih m' hm (i + 1) n' ys' s₀' s3 σ3 H3 hn' w3 g3 t3 f3)
          | brk =>
            obtain ⟨σ3, H3, I3, n3⟩ := hs
            exact seg_leaf (.ok .next) (k.ok n' ys' s₀' s3 .next hn' ⟨σ3, H3, (unp I3).1, n3⟩)
          | ret v =>
            obtain ⟨v3, σ3, H3, I3, rv, n3⟩ := hs
            exact seg_leaf (.ok (.ret v)) (k.ok n' ys' s₀' s3 (.ret v) hn' ⟨v3, σ3, H3, (unp I3).1, rv, n3⟩)
  exact loop m0 0 n ys s₀ s2 σ H2 hn w0 ⟨acc0, cc0, r, I2⟩ st2 fun b hb => (f2 b hb).1
end
end MW
namespace MW
open PySem PySem.Spec PyProof.Rows L2 GenW
/-- a generator's statements from the start on: all that they hand out -/
structure MGS (X : Cx) (W : WX) (S : Sg) (sts : List Stmt) (m : Ev → Out (List D)) : Prop where
  ex : ∃ t : TGn, GSs X sts t ∧ ∀ B F H σ ρ (Q : List V → Hp → Prop) (Rt : List V → VK), SInv X.K S B σ F H ρ → Sat (m ρ) (fun ds _ => ∀ F' H' σ' us ρ', SInv X.K S B σ' F' H' ρ' → Same F F' → RpL X.K F' us ds → chk S (outs S ρ') = true → Q us H') (XSo X W S B F) → t { nx := fun ys _ H' => Q ys H', rt := Rt } [] σ H
def mGSeq (m : Ev → Out Fl) (n : Ev → Out (List D)) : Ev → Out (List D) := fun ρ => (m ρ).bind fun fl ρ1 => match fl with
  | .nx => n ρ1
  | _ => .bad
section
variable {X : Cx} {W : WX} {S : Sg} {pos pos2 yp : Pos}
theorem mgn_cons {st : Stmt} {rest : List Stmt} {m : Ev → Out Fl} {n : Ev → Out (List D)} (h1 : MS X W S st m) (h2 : MGS X W S rest n) : MGS X W S (st :: rest) (mGSeq m n) := by
  obtain ⟨t, p, q⟩ := h1.ex
  obtain ⟨u, p', q'⟩ := h2.ex
  refine ⟨_, gss_cons (gs_ps p) p', fun B F H σ ρ Q Rt I h => ?_⟩
  refine q B F H σ ρ _ I (h.bind.mono (fun fl ρ1 g1 F1 H1 σ1 I1 s1 => ?_) fun _ _ z => z)
  cases fl with
  | nx => exact q' B F1 H1 σ1 ρ1 Q Rt I1 (Sat.mono g1 (fun ds ρ2 g2 F' H' σ' us ρ' I' s' r' => g2 F' H' σ' us ρ' I' (s1.trans s') r') fun _ _ z => XSo.up s1 z)
  | bk => exact g1.elim
  | ct => exact g1.elim
  | rt d => exact g1.elim
end
def spMG (K : Fg) (mg : Str → Option Value) (os : List Bool) (m : List D → Out (List D)) : SpG := fun vs H Q E => ∃ B F ds, vs.length = os.length ∧ SInv K (sgOf os) B (vs.map some) F H (ds.map some) ∧
  Sat (m ds) (fun ys zs => ∀ F' H' us, Back K (sgOf os) B vs F' H' zs → Same F F' → RpL K F' us ys → Q us H') (fun c zs => ∀ F' H' C, Back K (sgOf os) B vs F' H' zs → Same F F' → mg c = some (.ref C) → E (.ref C) none H')
def mDefG (n : Nat) (mb : Ev → Out (List D)) : List D → Out (List D) := fun ds => match mb (ds.map some ++ List.replicate (n - ds.length) none) with
  | .ok ys _ => .ok ys (List.replicate ds.length none)
  | .err c _ => .err c (List.replicate ds.length none)
  | .bad => .bad
section
variable {P : Program} {w : World} {K : PySem.W.Frag} {mg : Str → Option Value} {base : Heap}
theorem def_okG {x qual : Str} {st : Stmt} {f : Addr} {fd : FuncData} {N ps : List Str} {k : Nat} (S : Sg) (os : List Bool) {mb : Ev → Out (List D)} (Fn : L2.Fun K x qual st f fd) (Sc : GScope N ps (defScope st)) (hnp : ps.length = S.np) (hos : os.length = S.np) (hks : (List.range S.np).all (fun i => knd S i == if os.getD i false = true then 1 else 0) = true) (ho : os.all (fun b => !b) = true)
    (hbody : ∀ (cdv : Value) (A : Around) (outer : List Env) (s : Shared) (H : Hp) (E : XK) (pn : List (Addr × Obj)), RoomQ false k (A.deeper (envOfC qual (defScope st) s.heap.objs.size f cdv)) →
      MGS (gcxOf P w K mg base N qual (defScope st) f cdv A outer s H E pn) (fun c d _ H => E c d H) S (defBody st) mb) (hTn : S.T = [] := by rfl) :
    GFn P w K mg base (k + 1) f fd ps (spMG K mg os (mDefG N.length mb)) := by
  obtain ⟨oc, od, kV, doc, pm, an, cdv, ct, osl, rfl, lk, hcd⟩ := Fn.ex
  refine gfn_of lk hcd Sc (fun vs H Q E h => ?_) (fun A outer s H vs Q E pn hr h => ?_)
  · obtain ⟨_, _, _, hl, _⟩ := h
    rw [hl, hnp, hos]
  · obtain ⟨B, F, ds, hl, I, hs⟩ := h
    obtain ⟨t, p, q⟩ := (hbody cdv A outer s H E pn ⟨hr, fun z => by cases z⟩).ex
    have hlen : ds.length = vs.length := by have := I.len; simpa using this
    have nown : ∀ i, own (sgOf os) i = true → False := fun i k => by
      rw [sgOf_own] at k
      rw [List.getD_eq_getElem?_getD] at k
      cases e : os[i]? with
      | none => rw [e] at k; cases k
      | some b =>
        rw [e] at k
        have := List.all_eq_true.mp ho b (List.mem_of_getElem? e)
        have k : b = true := k
        rw [k] at this; cases this
    have back : ∀ {F' H' : Hp} {σ' : Sts} {ρ' : Ev}, SInv K S B σ' F' H' ρ' → Back K (sgOf os) B vs F' H' (List.replicate ds.length none) := fun {F' H' σ' ρ'} J =>
      ⟨by rw [List.length_replicate, hlen, hl]; rfl, J.ext, J.same, fun i a k e => (nown i k).elim⟩
    refine ⟨t, p, q B F H _ _ Q _ (start_sinv (N := N) hos hks (by omega) (nil_ts I hTn) I) ?_⟩
    unfold mDefG at hs
    cases e1 : mb (ds.map some ++ List.replicate (N.length - ds.length) none) with
    | bad => rw [e1] at hs; exact hs.elim
    | err c ρ' =>
      rw [e1] at hs
      exact fun F' H' σ' C J s' hC => hs F' H' C (back J) s' hC
    | ok ys ρ' =>
      rw [e1] at hs
      exact fun F' H' σ' us ρ2 J s' r _ => hs F' H' us (back J) s' r
end
end MW
namespace MW
open PySem PySem.Spec PyProof.Rows L2
end MW
namespace MW
open PySem PySem.Spec PyProof.Rows L2
end MW
namespace MW
open PySem PySem.Spec PyProof.Rows L2
end MW
namespace MW
open PySem PySem.Spec PyProof.Rows L2
section
variable {X : Cx} {W : WX} {S : Sg} {pos apos : Pos} {o e : Expr} {mo me : Ev → Out D}
def mJ : List (Ev → Out D) → Str → Ev → Out D
  | [], acc => fun ρ => .ok (.str acc) ρ
  | m :: ms, acc => fun ρ => (m ρ).bind fun d ρ1 => match d with
    | .str y => if (acc ++ y).length ≤ 16777216 then mJ ms (acc ++ y) ρ1 else .bad
    | _ => .bad
inductive MJ (X : Cx) (W : WX) (S : Sg) : List Expr → List (Ev → Out D) → Prop
  | nil : MJ X W S [] []
  | cons {e : Expr} {m : Ev → Out D} {es : List Expr} {ms : List (Ev → Out D)} : ME X W S e m → MJ X W S es ms → MJ X W S (e :: es) (m :: ms)
theorem MJ.run {es : List Expr} {ms : List (Ev → Out D)} (h : MJ X W S es ms) : ∃ ts, PJ X es ts ∧ ∀ B F H σ ρ acc (Q : Str → Hp → Prop), SInv X.K S B σ F H ρ → Sat (mJ ms acc ρ) (EKo X.K S B σ F fun v H' => ∃ y, v = .str y ∧ Q y H') (XKo X W S B σ F) → tJs ts acc σ H Q := by
  induction h with
  | nil =>
    refine ⟨[], .nil, fun B F H σ ρ acc Q I h => ?_⟩
    obtain ⟨y, e, k⟩ := h F H (.str acc) I (Same.refl _) (.str acc)
    cases e
    exact k
  | cons h1 r ih =>
    obtain ⟨ts, p, q⟩ := ih
    obtain ⟨t, p1, q1⟩ := h1.ex
    have hsz := sizeLine_eq
    refine ⟨t :: ts, .cons p1 p, fun B F H σ ρ acc Q I h => ?_⟩
    refine q1 B F H σ ρ _ I ((Sat.bind h).mono (fun d ρ1 h1 F1 H1 x I1 s1 r1 => ?_) fun _ _ z => z)
    split at h1
    · split at h1
      · rename_i hl
        cases r1
        exact ⟨_, rfl, by omega, q B F1 H1 σ ρ1 _ Q I1 (Sat.mono h1 (fun d ρ2 k => EKo.up s1 k) fun _ _ z => XKo.up s1 z)⟩
      · exact h1.elim
    · exact h1.elim
variable {es : List Expr} {ms : Ev → Out (List D)} {p : Pos}
variable {a b : Expr} {ma mb : Ev → Out D}
end
end MW
namespace MW
open PySem PySem.Spec PyProof.Rows L2 PySem.W
end MW
namespace MW
open PySem PySem.Spec PyProof.Rows L2
end MW
namespace MW
open PySem PySem.Spec PyProof.Rows L2 LamX
end MW
namespace MW
open PySem PySem.Spec PyProof.Rows L2 LamX L2H
end MW
namespace MW
open PySem PySem.Spec PyProof.Rows L2 LamX L2H
end MW
namespace MW
open PySem PySem.Spec PyProof.Rows L2
end MW
namespace MW
open PySem PySem.Spec PyProof.Rows L2
def putT (ps : List (List Int × D)) (k : List Int) (d : D) : List (List Int × D) := if (ps.any fun p => decide (p.1 = k)) = true then ps.map fun p => if p.1 = k then (p.1, d) else p else ps ++ [(k, d)]
def putV (ps : List (List Int × V)) (k : List Int) (d : V) : List (List Int × V) := if (ps.any fun p => decide (p.1 = k)) = true then ps.map fun p => if p.1 = k then (p.1, d) else p else ps ++ [(k, d)]
section
variable {K : Fg} {F : Hp}
theorem RpT.any : ∀ {kvs : List (List Int × V)} {ps : List (List Int × D)}, RpT K F kvs ps → ∀ k, (kvs.any fun p => decide (p.1 = k)) = (ps.any fun p => decide (p.1 = k))
  | _, _, .nil, _ => rfl
  | _, _, .cons _ t, k => by rw [List.any_cons, List.any_cons, t.any k]
theorem RpT.over {v : V} {d : D} (k : List Int) (r : Rp K F v d) : ∀ {kvs : List (List Int × V)} {ps : List (List Int × D)}, RpT K F kvs ps → RpT K F (kvs.map fun p => if p.1 = k then (p.1, v) else p) (ps.map fun p => if p.1 = k then (p.1, d) else p)
  | _, _, .nil => .nil
  | _, _, .cons (k := j) q t => by
    rw [List.map_cons, List.map_cons]
    by_cases h : j = k
    · rw [if_pos h, if_pos h]; exact .cons r (t.over k r)
    · rw [if_neg h, if_neg h]; exact .cons q (t.over k r)
theorem RpT.app {v : V} {d : D} {k : List Int} (r : Rp K F v d) : ∀ {kvs : List (List Int × V)} {ps : List (List Int × D)}, RpT K F kvs ps → RpT K F (kvs ++ [(k, v)]) (ps ++ [(k, d)])
  | _, _, .nil => .cons r .nil
  | _, _, .cons q t => .cons q (t.app r)
theorem RpT.put {kvs : List (List Int × V)} {ps : List (List Int × D)} (h : RpT K F kvs ps) (k : List Int) {v : V} {d : D} (r : Rp K F v d) : RpT K F (putV kvs k v) (putT ps k d) := by
  unfold putV putT
  rw [h.any k]
  split
  · exact h.over k r
  · exact h.app r
theorem RpT.len : ∀ {kvs : List (List Int × V)} {ps : List (List Int × D)}, RpT K F kvs ps → kvs.length = ps.length
  | _, _, .nil => rfl
  | _, _, .cons _ t => by rw [List.length_cons, List.length_cons, t.len]
end
end MW
namespace MW
open PySem PySem.Spec PyProof.Rows L2
end MW
namespace MW
open PySem PySem.Spec PyProof.Rows L2
end MW
namespace MW
open PySem PySem.Spec PyProof.Rows L2
variable {gq : Bool}
/-- an attribute among an instance's -/
def fldD (f : Str) : List (D × D) → Option D
  | [] => none
  | (.str x, d) :: ps => if x = f then some d else fldD f ps
  | _ :: ps => fldD f ps
def gFld (f : Str) : D → Option D
  | .dict ((.none, .str _) :: (.none, _) :: ps) => if fldNames.contains f = true then fldD f ps else none
  | _ => none
abbrev encF (fs : List (Str × V)) : List (L2.Key × V) := fs.map fun p => (Sum.inr p.1, p.2)
section
variable {K : Fg} {F : Hp}
theorem fld_rp {f : Str} {d : D} : ∀ {fs : List (Str × V)} {ps : List (D × D)}, RpK K F (encF fs) ps → fldD f ps = some d → ∃ v, fs.lookup f = some v ∧ Rp K F v d
  | [], _, .nil, h => by cases h
  | (x, v) :: fs, _, .cons (d := d') (ps := ps) r t, h => by
    have h : (if x = f then some d' else fldD f ps) = some d := h
    by_cases e : x = f
    · rw [if_pos e] at h
      cases h
      exact ⟨v, by rw [e]; exact List.lookup_cons_self, r⟩
    · rw [if_neg e] at h
      obtain ⟨w, e2, r2⟩ := fld_rp t h
      refine ⟨w, ?_, r2⟩
      rw [List.lookup_cons, show (f == x) = false from beq_eq_false_iff_ne.mpr fun z => e z.symm]
      exact e2
theorem rp_ins {H : Hp} {v : V} {cn : Str} {x : D} {ps : List (D × D)} (s : Same F H) (r : Rp K F v (.dict ((.none, .str cn) :: (.none, x) :: ps))) : ∃ a C dx fs, v = .ref a ∧ H a = some (.ins C dx fs) ∧ ClsOf K cn C ∧ (fs.all fun p => fldNames.contains p.1) = true ∧ RpK K F (encF fs) ps ∧ x = noShow := by
  cases r with
  | dct h r => exact absurd (rpK_real r) Bool.false_ne_true
  | ins h c r => exact ⟨_, _, _, _, rfl, s _ _ h, c.1, c.2, r, rfl⟩
end
section
variable {X : Cx} {W : WX} {S : Sg} {e : Expr} {pos : Pos} {f : Str} {me : Ev → Out D}
/-- o.f -/
theorem me_fld (he : ME X W S e me) (hb : attributeBase e f X.env (eval e X.env) = eval e X.env := by rfl) : ME X W S (.Attribute e f pos) (mUn (gFld f) me) := by
  obtain ⟨t, p, q⟩ := he.ex
  refine ⟨_, pe_fld p hb, fun B F H σ ρ Q I h => ?_⟩
  refine q B F H σ ρ _ I ((Sat.bind h).mono (fun d ρ1 h1 F1 H1 v I1 s1 r1 => ?_) fun _ _ z => z)
  obtain ⟨z, hz, h3⟩ := sat_of h1
  unfold gFld at hz
  split at hz
  · split at hz
    · rename_i hf
      obtain ⟨a, C, dx, fs, rfl, e1, c, _, rr, _⟩ := rp_ins I1.same r1
      obtain ⟨w, e2, r2⟩ := fld_rp rr hz
      exact ⟨a, C, dx, fs, w, rfl, e1, c.ic.cl, c.ic.na _ hf, e2, h3 F1 H1 w I1 s1 r2⟩
    · cases hz
  · cases hz
end
section
variable {X : Cx} {k : Nat} {f C p g : Addr} {fd : FuncData} {ps : List Str} {sp : Sp} {m : Str} {pos apos : Pos} {o e : Expr} {es : List Expr} {ta : TE} {t : TA} {E : L2.St → XK}
/-- the callee runs -/
theorem run_fnQ {pins : List (Addr × Obj)} {σ : L2.St} {H : Hp} {s : Shared} {Q : VK} {us : List Value} {vs : List V} (F : FnQ gq X.prog X.w X.K X.mg X.base k f fd ps sp) (hr : RoomQ gq k X.A) (hb : Binds X.K fd ps []) (hx : PassesAt (L2.CX X.prog X.w) X σ (E σ))
    (I : Inv X pins σ H s) (r : Vals vs us) (h : sp vs H Q (E σ)) : wpAny (model X.prog X.w) X.A (call (.ref f) us) (EP X pins σ Q) X.xe s := by
  have n : us.length = ps.length := by rw [← F.len _ _ _ _ h, r.length]
  have bd : BindsTo s fd ⟨us, []⟩ (ps.zip us) := by
    have z := hb s us I.kIn (by simpa using n)
    simpa using z
  refine wpAny_call (codeAny_mono (F.run X.A X.stack s H ⟨us, []⟩ us vs Q (E σ) hr I.env0 bd r h) fun r s' hq => ?_)
  match r, hq with
  | .error e, hq => exact hx pins H s e s' I hq
  | .ok (.ret u), hq => exact I.after hq
  | .ok .next, hq => exact hq.elim
  | .ok .brk, hq => exact hq.elim
  | .ok .cont, hq => exact hq.elim
/-- o.m(..), whatever of its classes the object has -/
def tMethG (M : Addr → Prop) (m : Str) (sp : Sp) (E : L2.St → XK) (ta : TE) (t : TA) : TE := fun σ H Q => ta σ H fun x H1 => ∃ a C dx fs, x = .ref a ∧ H1 a = some (.ins C dx fs) ∧ M C ∧ fs.lookup m = none ∧
  t σ H1 fun vs H2 => sp (x :: vs) H2 Q (E σ)
theorem pe_methG {pl : Sem Bool} {M : Addr → Prop} (he : PE X o ta) (hM : ∀ C, M C → Cls X.K C ∧ Meth X.K C m f) (F : FnQ gq X.prog X.w X.K X.mg X.base k f fd ps sp) (hr : RoomQ gq k X.A) (hb : Binds X.K fd ps []) (hx : ∀ σ, PassesAt (L2.CX X.prog X.w) X σ (E σ)) (ha : PA X (e :: es) t)
    (hst : starEach (e :: es) X.env = (false, eval e X.env) :: starEach es X.env := by rfl) (hpl : (backTo pos (starEach es X.env)).any (·.1) = false := by rfl)
    (ht : eval (.Call (.Attribute o m apos) (e :: es) [] pos) X.env = (do
      let ov ← eval o X.env
      standAt apos.atName
      let (f, first) ← holding [ov] (getMethod ov m pl)
      callWith pos f first (backTo pos (starEach (e :: es) X.env)) (backToKw pos (keywordEach [] X.env))) := by rfl) :
    PE X (.Call (.Attribute o m apos) (e :: es) [] pos) (tMethG M m sp E ta t) := by
  refine ⟨fun pins s σ H Q I h => ?_⟩
  refine PySem.W.methodCall_KW (pl := pl) (thn (he.run pins s σ H _ I h) fun u s1 ⟨x, H1, I1, rx, a, C, dx, fs, ex, ea, hm, hl, q⟩ => ?_) ht
  subst ex
  obtain rfl : u = Value.ref a := rx
  obtain ⟨c, me⟩ := hM C hm
  refine getmeth_ok I1 ea c me hl ?_
  refine PySem.W.callWith_K (first := [.ref a]) (h₀ := X.base) I.ok.mod.kin me.kp (thn (ha.run pos pins s1 σ H1 _ I1 q) fun us s2 ⟨vs, H2, I2, r, q2⟩ => ⟨I2.kIn, ?_⟩) hst hpl
  exact run_fnQ (us := .ref a :: us) (vs := .ref a :: vs) F hr hb (hx σ) I2 (.cons rfl r) q2
theorem RoomQ.in1 {A : Around} (r : RoomQ gq (k + 1) A) : RoomQ gq k A.in1 := ⟨r.rm.in1, fun z => by
  have h := r.gd z
  first | exact h | (simp [Around.in1, h])⟩
/-- o.f, a property, whatever of its classes the object has -/
def tPropG (M : Addr → Prop) (sp : Sp) (ta : TE) : TE := fun σ H Q => ta σ H fun x H1 => ∃ a C dx fs, x = .ref a ∧ H1 a = some (.ins C dx fs) ∧ M C ∧ sp [.ref a] H1 Q fun _ _ _ => False
theorem pe_propG {M : Addr → Prop} (he : PE X e ta) (hM : ∀ C, M C → Cls X.K C ∧ PropOf X.K C m p g) (F : FnQ gq X.prog X.w X.K X.mg X.base k g fd ps sp) (hr : RoomQ gq (k + 1) X.A) (hb : Binds X.K fd ps [])
    (hab : attributeBase e m X.env (eval e X.env) = eval e X.env := by rfl) : PE X (.Attribute e m pos) (tPropG M sp ta) := by
  refine ⟨fun pins s σ H Q I h => ?_⟩
  refine attr_of hab (thn (he.run pins s σ H _ I h) fun u s1 ⟨x, H1, I1, rx, a, C, dx, fs, ex, ea, hm, q⟩ => ?_)
  subst ex
  obtain rfl : u = Value.ref a := rx
  obtain ⟨c, hp⟩ := hM C hm
  obtain ⟨mA, O, _, _, _, _⟩ := ins_get I1.hok ea
  obtain ⟨od, J, _⟩ := O.look
  obtain ⟨rest, hrec⟩ := hp.rec_
  have I2 := I1.tok (s1.toks + 1)
  have hl : [Value.ref a].length = ps.length := by
    rw [← F.len _ _ _ _ q]; rfl
  have hc : (PySem.W.clsIn X.K C).isSome = true := by
    obtain ⟨cd, hc, _⟩ := PySem.W.any_some c.hd
    rw [hc]
    rfl
  have bd : BindsTo { s1 with toks := s1.toks + 1 } fd ⟨[.ref a], []⟩ (ps.zip [.ref a]) := by
    have z := hb { s1 with toks := s1.toks + 1 } [.ref a] I2.kIn (by simpa using hl)
    simpa using z
  refine PySem.W.get_bind I1.kIn J (PySem.W.plainGet_of (c.get m)).1 (PySem.W.findObj_data hc hp.at_ hp.get hp.tak) (PySem.W.plainGet_of (c.get m)).2 (wpAny_call (PySem.W.prop_get (s := { s1 with toks := s1.toks + 1 }) I1.kIn hrec ?_))
  refine codeAny_mono (F.run X.A.in1 X.stack { s1 with toks := s1.toks + 1 } H1 ⟨[.ref a], []⟩ [.ref a] [.ref a] Q (fun _ _ _ => False) hr.in1 I2.env0.in1 bd (.cons rfl .nil) q) fun r s' hq => ?_
  match r, hq with
  | .error er, hq =>
    obtain ⟨_, _, _, _, _, _, _, _, _, _, _, _, _, z⟩ := hq
  | .ok (.ret u), hq =>
    obtain ⟨v, H', I3, rv, q3⟩ := I2.after hq
    show wpAny _ _ (handedOut u) _ _ _
    rw [PySem.W.handedOut_of (handed_of rv)]
    exact wpAny_pure ⟨v, H', I3, rv, q3⟩
  | .ok .next, hq => exact hq.elim
  | .ok .brk, hq => exact hq.elim
  | .ok .cont, hq => exact hq.elim
end
def vwIs (P : Str → Bool) : D → Bool
  | .dict ((.none, .str cn) :: (.none, _) :: _) => viewNames.contains cn && P cn
  | _ => false
def mMethV (P : Str → Bool) (m : List D → Out D) (mo : Ev → Out D) (ms : Ev → Out (List D)) : Ev → Out D := fun ρ => (mo ρ).bind fun d ρ1 => if vwIs P d = true then (ms ρ1).bind fun as ρ2 => (match m (d :: as) with
  | .ok z _ => .ok z ρ2
  | .err c _ => .err c ρ2
  | .bad => .bad) else .bad
def mPropV (m : List D → Out D) (mo : Ev → Out D) : Ev → Out D := fun ρ => (mo ρ).bind fun d ρ1 => if vwIs (fun _ => true) d = true then (match m [d] with
  | .ok z _ => .ok z ρ1
  | _ => .bad) else .bad
theorem lookup_none {m : Str} (hm : fldNames.contains m = false) : ∀ {fs : List (Str × V)}, (fs.all fun p => fldNames.contains p.1) = true → fs.lookup m = none
  | [], _ => rfl
  | (x, v) :: fs, h => by
    rw [List.all_cons, Bool.and_eq_true] at h
    have : (m == x) = false := beq_eq_false_iff_ne.mpr fun z => by
      have h1 := h.1
      subst z
      rw [hm] at h1
      cases h1
    rw [List.lookup_cons, this]
    exact lookup_none hm h.2
/-- a view object's class -/
abbrev VwC (K : Fg) (P : Str → Bool) (C : Addr) : Prop := ∃ cn, ClsOf K cn C ∧ viewNames.contains cn = true ∧ P cn = true
theorem vw_at {K : Fg} {F H : Hp} {P : Str → Bool} {v : V} {d : D} (s : Same F H) (r : Rp K F v d) (h : vwIs P d = true) : ∃ a C dx fs, v = .ref a ∧ H a = some (.ins C dx fs) ∧ VwC K P C ∧ (fs.all fun p => fldNames.contains p.1) = true := by
  unfold vwIs at h
  split at h
  · rename_i cn x ps
    rw [Bool.and_eq_true] at h
    obtain ⟨a, C, dx, fs, e, ea, c, al, _, _⟩ := rp_ins s r
    exact ⟨a, C, dx, fs, e, ea, ⟨cn, c, h.1, h.2⟩, al⟩
  · cases h
theorem vw_cls {K : Fg} {P : Str → Bool} {C : Addr} (h : VwC K P C) : Cls K C := by obtain ⟨cn, c, _⟩ := h; exact c.ic.cl
theorem vw_meth {K : Fg} {P : Str → Bool} {C V f : Addr} {m : Str} (h : VwC K P C) (hV : PySem.W.nsIn K mainGlobals "View" = some (some (.ref V))) (hm : viewAttrs.contains m = true) (M : Meth K V m f) : Meth K C m f := by
  obtain ⟨cn, c, h1, _⟩ := h
  exact ⟨(c.inh h1 V hV m hm).trans M.at_, M.fn, M.kp⟩
theorem vw_prop {K : Fg} {P : Str → Bool} {C V p g : Addr} {m : Str} (h : VwC K P C) (hV : PySem.W.nsIn K mainGlobals "View" = some (some (.ref V))) (hm : viewAttrs.contains m = true) (M : PropOf K V m p g) : PropOf K C m p g := by
  obtain ⟨cn, c, h1, _⟩ := h
  exact ⟨(c.inh h1 V hV m hm).trans M.at_, M.get, M.tak, M.rec_⟩
theorem vw_put {K : Fg} {C V f : Addr} (h : VwC K (fun cn => cn != "LoggedView") C) (hV : PySem.W.nsIn K mainGlobals "View" = some (some (.ref V))) (M : Meth K V "put" f) : Meth K C "put" f := by
  obtain ⟨cn, c, h1, h2⟩ := h
  exact ⟨(c.inhP h1 (by simpa using h2) V hV).trans M.at_, M.fn, M.kp⟩
section
variable {X : Cx} {W : WX} {S : Sg} {k : Nat} {f Vw p g : Addr} {fd : FuncData} {ps : List Str} {m : List D → Out D} {nm : Str} {pos apos : Pos} {o e : Expr} {es : List Expr} {mo : Ev → Out D} {ms : Ev → Out (List D)} {P : Str → Bool}
/-- what a def is promised, of values -/
theorem spM_vals {B : Base} {σ : Sts} {F H : Hp} {ρ : Ev} {vs : List V} {as : List D} {Q : VK} {E : XK} (I : SInv X.K S B σ F H ρ) (r : RpL X.K F vs as)
    (h : Sat (m as) (fun z _ => ∀ F' H' v, SInv X.K S B σ F' H' ρ → Same F F' → Rp X.K F' v z → Q v H') (fun c _ => ∀ F' H' C, SInv X.K S B σ F' H' ρ → Same F F' → X.mg c = some (.ref C) → E (.ref C) none H')) : spM X.K X.mg (List.replicate as.length false) m vs H Q E := by
  have A := rpL_arg (σ := σ) r
  have hos : List.replicate as.length false = (List.replicate as.length (none : Option Nat)).map Option.isSome := by simp
  have ho : (List.replicate as.length (none : Option Nat)).all (fun k => k.all (fun i => knd S i == 1)) = true := List.all_eq_true.mpr fun o hm => by rw [(List.mem_replicate.mp hm).2]; rfl
  have hnd : ((List.replicate as.length (none : Option Nat)).filterMap id).Nodup := by simp
  have hres := resolve_none (ρ := ρ) (ds := as)
  obtain ⟨hl, Jc⟩ := call_start I A hres hos ho hnd
  refine ⟨_, F, as, hl, Jc, ?_⟩
  have fin : ∀ {F' H' zs}, Back X.K (sgOf (List.replicate as.length false)) (callB (os := List.replicate as.length false) vs as F H) vs F' H' zs → SInv X.K S B σ F' H' ρ := fun {F' H' zs} b => by
    have b2 := call_back I A hres hos ho hnd b
    rw [wback_none] at b2
    exact b2
  exact h.mono (fun z zs k F' H' v b s r => k F' H' v (fin b) s r) fun c zs k F' H' C b s hC => k F' H' C (fin b) s hC
theorem me_meth_ {pl : Sem Bool} (Pm : ∀ C, VwC X.K P C → Meth X.K C nm f) (hn : fldNames.contains nm = false) (Fn : FnQ gq X.prog X.w X.K X.mg X.base k f fd ps (spM X.K X.mg (List.replicate (es.length + 2) false) m)) (hr : RoomQ gq k X.A) (hb : Binds X.K fd ps []) (tk : Takes X W)
    (ho : ME X W S o mo) (ha : MA X W S (e :: es) ms) (hst : starEach (e :: es) X.env = (false, eval e X.env) :: starEach es X.env := by rfl) (hpl : (backTo pos (starEach es X.env)).any (·.1) = false := by rfl)
    (ht : eval (.Call (.Attribute o nm apos) (e :: es) [] pos) X.env = (do
      let ov ← eval o X.env
      standAt apos.atName
      let (f, first) ← holding [ov] (getMethod ov nm pl)
      callWith pos f first (backTo pos (starEach (e :: es) X.env)) (backToKw pos (keywordEach [] X.env))) := by rfl) :
    ME X W S (.Call (.Attribute o nm apos) (e :: es) [] pos) (mMethV P m mo ms) := by
  obtain ⟨t0, p0, q0⟩ := ho.ex
  obtain ⟨t, pt, q⟩ := ha.ex
  refine ⟨_, pe_methG (M := VwC X.K P) p0 (fun C h => ⟨vw_cls h, Pm C h⟩) Fn hr hb (fun σ => passAt tk σ) pt hst hpl ht, fun B F H σ ρ Q I h => ?_⟩
  refine q0 B F H σ ρ _ I ((Sat.bind h).mono (fun d ρ1 h1 F1 H1 v I1 s1 r1 => ?_) fun _ _ z => z)
  by_cases hv : vwIs P d = true
  · obtain ⟨a, C, dx, fs, rfl, ea, hC, al⟩ := vw_at I1.same r1 hv
    rw [if_pos hv] at h1
    refine ⟨a, C, dx, fs, rfl, ea, hC, lookup_none hn al, ?_⟩
    refine q B F1 H1 σ ρ1 _ I1 ((Sat.bind h1).tell.mono (fun as ρ2 ⟨h2, e2⟩ F2 H2 vs I2 s2 r2 => ?_) fun c ρ2 z => XKo.up s1 z)
    have hel : as.length = es.length + 1 := ha.len _ _ _ e2
    have hz := spM_vals (m := m) (Q := Q) (E := WE W σ) I2 (.cons (r1.up s2) r2) (by
      cases e3 : m (d :: as) with
      | bad => rw [e3] at h2; exact h2.elim
      | ok z zs =>
        rw [e3] at h2
        exact fun F' H' v J s' r => h2 F' H' v J ((s1.trans s2).trans s') r
      | err c zs =>
        rw [e3] at h2
        exact fun F' H' C J s' hC => h2 F' H' C J ((s1.trans s2).trans s') hC)
    rw [List.length_cons, hel] at hz
    exact hz
  · rw [if_neg hv] at h1
    exact h1.elim
/-- a view object's property -/
theorem me_propV (hV : PySem.W.nsIn X.K mainGlobals "View" = some (some (.ref Vw))) (Mp : PropOf X.K Vw nm p g) (Fn : FnQ gq X.prog X.w X.K X.mg X.base k g fd ps (spM X.K X.mg [false] m)) (hr : RoomQ gq (k + 1) X.A) (hb : Binds X.K fd ps []) (ho : ME X W S o mo)
    (hm : viewAttrs.contains nm = true := by decide) (hab : attributeBase o nm X.env (eval o X.env) = eval o X.env := by rfl) : ME X W S (.Attribute o nm pos) (mPropV m mo) := by
  obtain ⟨t0, p0, q0⟩ := ho.ex
  refine ⟨_, pe_propG (M := VwC X.K fun _ => true) p0 (fun C h => ⟨vw_cls h, vw_prop h hV hm Mp⟩) Fn hr hb hab, fun B F H σ ρ Q I h => ?_⟩
  refine q0 B F H σ ρ _ I ((Sat.bind h).mono (fun d ρ1 h1 F1 H1 v I1 s1 r1 => ?_) fun _ _ z => z)
  by_cases hv : vwIs (fun _ => true) d = true
  · obtain ⟨a, C, dx, fs, rfl, ea, hC, al⟩ := vw_at I1.same r1 hv
    rw [if_pos hv] at h1
    have h2 : Sat (match m [d] with | .ok z _ => Out.ok z ρ1 | _ => .bad) _ _ := h1
    refine ⟨a, C, dx, fs, rfl, ea, hC, ?_⟩
    exact spM_vals (m := m) (Q := Q) (E := fun _ _ _ => False) (as := [d]) I1 (.cons r1 .nil) (by
      cases e3 : m [d] with
      | bad => rw [e3] at h2; exact h2.elim
      | ok z zs =>
        rw [e3] at h2
        exact fun F' H' v J s' r => h2 F' H' v J (s1.trans s') r
      | err c zs =>
        rw [e3] at h2
        exact h2.elim)
  · rw [if_neg hv] at h1
    exact h1.elim
end
end MW
namespace MW
open PySem PySem.Spec PyProof.Rows L2
variable {gq : Bool}
/-- what a def leaves as it was: all but what stands at a -/
structure Keeps (F H F' H' : Hp) (a : Addr) : Prop where
  ff : Same F F'
  fh : Same F' H'
  hs : ∀ b o, H b = some o → b ≠ a → H' b = some o
  st : ∀ b, H' b = none → H b = none
  fr : ∀ b o, F' b = some o → F b = some o ∨ H b = none
/-- a promise of a def whose first parameter is an instance that it changes -/
def spI (K : Fg) (mg : Str → Option Value) (n : Nat) (m : List D → Out D) : Sp := fun vs H Q E => ∃ (F : Hp) (a : Addr) (us : List V) (d0 : D) (ds : List D), vs = .ref a :: us ∧ us.length = n ∧ Same F H ∧ RpL K F us ds ∧ OwI K F H a d0 ∧
  Sat (m (d0 :: ds)) (fun z zs => ∀ F' H' v d', zs.getD 0 none = some d' → Keeps F H F' H' a → OwI K F' H' a d' → Rp K F' v z → Q v H') (fun c zs => ∀ F' H' C d', zs.getD 0 none = some d' → Keeps F H F' H' a → OwI K F' H' a d' → mg c = some (.ref C) → E (.ref C) none H')
section
variable {K : Fg} {S : Sg} {B : Base} {σ : Sts} {F H F' H' : Hp} {ρ : Ev} {a : Addr}
/-- a caller who holds not what stands at a -/
theorem SInv.keeps (I : SInv K S B σ F H ρ) (k : Keeps F H F' H' a) (hB : B.H a = none ∨ B.O a) (hM : ∀ o, F' a ≠ some o) (so : ∀ o, H a = some o → Soft o) (hn : ∀ i b, Held S σ H ρ i b → b ≠ a) : SInv K S B σ F' H' ρ := by
  refine I.move k.fh ⟨I.ext.fs.trans k.ff, fun b o e n => ?_, fun b e => I.ext.st b (k.st b e), fun b o e => ?_, tabs_keep I.ext.tb fun b o e n => ?_, I.ext.to, fun q hq => ?_⟩ k.ff (fun i b hh => ?_) fun i b hh => ?_
  · have hb : b ≠ a := fun z => by
      subst z
      rcases hB with h | h
      · rw [h] at e; cases e
      · exact n h
    exact k.hs b o (I.ext.hs b o e n) hb
  · rcases k.fr b o e with h | h
    · exact I.ext.fr b o h
    · exact .inr (.inl (I.ext.st b h))
  · have hb : b ≠ a := fun z => by subst z; exact n (so o e)
    exact k.hs b o e hb
  · cases e : F' q.1 with
    | none => rfl
    | some o =>
      rcases k.fr _ _ e with h | h
      · rw [I.ext.tf q hq] at h; cases h
      · obtain ⟨ps, e2⟩ := tabs_at I.ext.tb hq
        rw [h] at e2; cases e2
  · cases e : F' b with
    | none => rfl
    | some o =>
      obtain ⟨h1, h2, _⟩ := I.heldAt hh
      rcases k.fr _ _ e with h | h
      · rw [h1] at h; cases h
      · exact absurd h h2
  · cases e : H b with
    | none => exact absurd e (I.heldSome hh)
    | some o => exact k.hs b o e (hn i b hh)
end
section
variable {K : Fg} {S : Sg} {F H : Hp} {a : Addr} {us : List V} {d0 : D} {ds : List D} {N : List Str} {n : Nat}
abbrev baseI (N : List Str) (vs : List V) (F H : Hp) (a : Addr) : Base := ⟨fun b => b = a, fun _ => False, F, H, L2.start N vs, []⟩
theorem start_I (hn : S.np = n + 1) (hl : us.length = n) (hN : n + 1 ≤ N.length) (k0 : knd S 0 = 7) (ks : (List.range n).all (fun i => knd S (i + 1) == 0) = true) (hT : S.T = []) (s : Same F H) (r : RpL K F us ds) (w : OwI K F H a d0) :
    SInv K S (baseI N (.ref a :: us) F H a) (L2.start N (.ref a :: us)) F H ((d0 :: ds).map some ++ List.replicate (N.length - (d0 :: ds).length) none) := by
  have hd : ds.length = n := by rw [← r.len, hl]
  have at_ : ∀ {i : Nat} {d : D}, ((d0 :: ds).map some ++ List.replicate (N.length - (d0 :: ds).length) none)[i]? = some (some d) → (d0 :: ds)[i]? = some d := fun {i d} e => by
    by_cases hi : i < (d0 :: ds).length
    · rw [List.getElem?_append_left (by rw [List.length_map]; exact hi), List.getElem?_map] at e
      obtain ⟨x, e1, e2⟩ := Option.map_eq_some_iff.mp e
      cases e2
      exact e1
    · rw [List.getElem?_append_right (by rw [List.length_map]; omega), List.getElem?_replicate] at e
      split at e <;> cases e
  have st_ : ∀ {i : Nat} {v : V}, (V.ref a :: us)[i]? = some v → (L2.start N (V.ref a :: us))[i]? = some (some v) := fun {i v} e => by
    unfold L2.start
    have hi := (List.getElem?_eq_some_iff.mp e).1
    rw [List.getElem?_append_left (by rw [List.length_map]; exact hi), List.getElem?_map, e]; rfl
  have kz : ∀ {i : Nat}, i < n → knd S (i + 1) = 0 := fun {i} hi => eq_of_beq (List.all_eq_true.mp ks i (List.mem_range.mpr hi))
  have lt_ : ∀ {i : Nat} {d : D}, (d0 :: ds)[i]? = some d → i < n + 1 := fun {i d} e => by
    have := (List.getElem?_eq_some_iff.mp e).1
    rw [List.length_cons, hd] at this; exact this
  have zero : ∀ {i : Nat} {d : D}, (d0 :: ds)[i]? = some d → own S i = true → i = 0 := fun {i d} e k => by
    cases i with
    | zero => rfl
    | succ i =>
      have := lt_ e
      rw [own_of0 (kz (by omega))] at k
      cases k
  refine ⟨?_, s, ⟨Same.refl _, fun b o e _ => e, fun b e => e, fun b o e => .inl e, (fun p hp => by cases hp), (fun p hp => by cases hp), fun p hp => by cases hp⟩, fun i d e k => ?_, fun i d e k => ?_, fun i j b h1 h2 => ?_, fun i d e k => ?_, fun i hi k => rfl, hT.symm⟩
  · unfold L2.start
    simp only [List.length_append, List.length_map, List.length_replicate, List.length_cons, hd, hl]
  · have e1 := at_ e
    cases i with
    | zero => rw [k0] at k; cases k
    | succ i =>
      have e1 : ds[i]? = some d := by simpa using e1
      obtain ⟨v, e2, rv⟩ := r.get e1
      exact ⟨v, st_ (by simpa using e2), rv⟩
  · have e1 := at_ e
    have hi := zero e1 k
    subst hi
    simp at e1
    subst e1
    refine ⟨a, [], st_ rfl, ⟨by simp, by rw [k0]; exact ⟨rfl, w⟩⟩, fun b hb => ?_⟩
    have hb : b = a := by simpa using hb
    exact .inl ⟨hb, fun z => by rw [hn] at z; omega⟩
  · obtain ⟨k1, ⟨x1, e1⟩, _⟩ := h1
    obtain ⟨k2, ⟨x2, e2⟩, _⟩ := h2
    rw [zero (at_ e1) k1, zero (at_ e2) k2]
  · have e1 := at_ e
    cases i with
    | zero => rw [k0] at k; cases k
    | succ i =>
      have := lt_ e1
      rw [kz (by omega)] at k; cases k
/-- at the def's end -/
theorem end_I {σ' : Sts} {F' H' : Hp} {ρ' : Ev} {d' : D} (k0 : knd S 0 = 7) (hp : 0 < S.np) (J : SInv K S (baseI N (.ref a :: us) F H a) σ' F' H' ρ') (s : Same F F') (e : (outs S ρ').getD 0 none = some d') : Keeps F H F' H' a ∧ OwI K F' H' a d' := by
  refine ⟨⟨s, J.same, fun b o e n => J.ext.hs b o e n, J.ext.st, fun b o e => ?_⟩, ?_⟩
  · rcases J.ext.fr b o e with h | h | h
    · exact .inl h
    · exact .inr h
    · exact h.elim
  · have ho := outs_at (ρ := ρ') hp (own_of7 k0)
    rw [List.getD_eq_getElem?_getD, ho] at e
    have e : ρ'.getD 0 none = some d' := e
    have e2 : ρ'[0]? = some (some d') := by
      rw [List.getD_eq_getElem?_getD] at e
      cases z : ρ'[0]? with
      | none => rw [z] at e; cases e
      | some x => rw [z] at e; exact congrArg some e
    obtain ⟨b, bs, e3, w, _⟩ := J.ow 0 d' e2 (own_of7 k0)
    have w2 := w.2
    rw [k0] at w2
    have hpin := J.pin 0 hp (own_of7 k0)
    rw [e3] at hpin
    have : (L2.start N (V.ref a :: us))[0]? = some (some (V.ref a)) := by unfold L2.start; rfl
    have hpin : some (some (V.ref b)) = (L2.start N (V.ref a :: us))[0]? := hpin
    rw [this] at hpin
    cases hpin
    exact w2.2
theorem def_satI {X : Cx} {mb : Ev → Out Fl} {t : TS} {E : XK} {Q : VK} (hn : S.np = n + 1) (hN : n + 1 ≤ N.length) (k0 : knd S 0 = 7) (ks : (List.range n).all (fun i => knd S (i + 1) == 0) = true) (hT : S.T = [])
    (q : ∀ B F H σ ρ D, SInv X.K S B σ F H ρ → Sat (mb ρ) (FKo X.K S B F D) (XSo X (fun c d _ H => E c d H) S B F) → t D σ H) {vs : List V} (h : spI X.K X.mg n (mDef S N.length mb) vs H Q E) : t { nx := fun _ H' => Q .non H', rt := Q } (L2.start N vs) H := by
  obtain ⟨F, a, us, d0, ds, rfl, hl, s, r, w, hs⟩ := h
  have I := start_I (N := N) hn hl hN k0 ks hT s r w
  refine q _ F H _ _ _ I ?_
  have hp : 0 < S.np := by omega
  have some0 : ∀ {ρ' : Ev}, chk S (outs S ρ') = true → ∃ d', (outs S ρ').getD 0 none = some d' := fun {ρ'} ha => by
    have h1 := List.all_eq_true.mp ha 0 (List.mem_range.mpr hp)
    rw [own_of7 k0] at h1
    exact Option.isSome_iff_exists.mp (by simpa using h1)
  cases e1 : mb ((d0 :: ds).map some ++ List.replicate (N.length - (d0 :: ds).length) none) with
  | bad =>
    have e2 : mDef S N.length mb (d0 :: ds) = .bad := by unfold mDef; rw [e1]
    rw [e2] at hs
    exact hs.elim
  | err c ρ' =>
    have e2 : mDef S N.length mb (d0 :: ds) = if chk S (outs S ρ') = true then .err c (outs S ρ') else .bad := by unfold mDef; rw [e1]
    rw [e2] at hs
    by_cases ha : chk S (outs S ρ') = true
    · rw [if_pos ha] at hs
      obtain ⟨d', hd'⟩ := some0 ha
      exact fun F' H' σ' C J s' hC => by
        obtain ⟨k1, k2⟩ := end_I k0 hp J s' hd'
        exact hs F' H' C d' hd' k1 k2 hC
    · rw [if_neg ha] at hs
      exact hs.elim
  | ok fl ρ' =>
    cases fl with
    | bk =>
      have e2 : mDef S N.length mb (d0 :: ds) = .bad := by unfold mDef; rw [e1]
      rw [e2] at hs
      exact hs.elim
    | ct =>
      have e2 : mDef S N.length mb (d0 :: ds) = .bad := by unfold mDef; rw [e1]
      rw [e2] at hs
      exact hs.elim
    | nx =>
      have e2 : mDef S N.length mb (d0 :: ds) = if chk S (outs S ρ') = true then .ok .none (outs S ρ') else .bad := by unfold mDef; rw [e1]
      rw [e2] at hs
      by_cases ha : chk S (outs S ρ') = true
      · rw [if_pos ha] at hs
        obtain ⟨d', hd'⟩ := some0 ha
        exact fun F' H' σ' J s' => by
          obtain ⟨k1, k2⟩ := end_I k0 hp J s' hd'
          exact hs F' H' .non d' hd' k1 k2 .non
      · rw [if_neg ha] at hs
        exact hs.elim
    | rt d =>
      have e2 : mDef S N.length mb (d0 :: ds) = if chk S (outs S ρ') = true then .ok d (outs S ρ') else .bad := by unfold mDef; rw [e1]
      rw [e2] at hs
      by_cases ha : chk S (outs S ρ') = true
      · rw [if_pos ha] at hs
        obtain ⟨d', hd'⟩ := some0 ha
        exact fun F' H' σ' J s' v rv => by
          obtain ⟨k1, k2⟩ := end_I k0 hp J s' hd'
          exact hs F' H' v d' hd' k1 k2 rv
      · rw [if_neg ha] at hs
        exact hs.elim
end
section
variable {P : Program} {w : World} {K : PySem.W.Frag} {mg : Str → Option Value} {base : Heap}
theorem def_okI {x qual : Str} {st : Stmt} {f : Addr} {fd : FuncData} {N ps : List Str} {k : Nat} (S : Sg) (n : Nat) {mb : Ev → Out Fl} (Fn : L2.Fun K x qual st f fd) (Sc : FnScope N ps (defScope st)) (hps : ps.length = n + 1) (hn : S.np = n + 1) (hN : n + 1 ≤ N.length) (k0 : knd S 0 = 7) (ks : (List.range n).all (fun i => knd S (i + 1) == 0) = true)
    (hbody : ∀ (cdv : Value) (A : Around) (outer : List Env) (s : Shared) (H : Hp) (E : XK), RoomQ gq k (A.deeper (envOfC qual (defScope st) s.heap.objs.size f cdv)) →
      MSs (cxOf (L2.CX P w) P w K mg base N qual (defScope st) f cdv A outer s H E) (fun c d _ H => E c d H) S (defBody st) mb) (hTn : S.T = [] := by rfl) :
    FnQ gq P w K mg base (k + 1) f fd ps (spI K mg n (mDef S N.length mb)) := by
  refine FnQ.of Fn Sc (fun vs H Q E h => ?_) (fun cdv A outer s H vs Q E hr h => ?_)
  · obtain ⟨_, _, us, _, _, rfl, hl, _⟩ := h
    rw [List.length_cons, hl, hps]
  · obtain ⟨t, p, q⟩ := (hbody cdv A outer s H E hr).ex
    exact ⟨t, p, def_satI (X := cxOf (L2.CX P w) P w K mg base N qual (defScope st) f cdv A outer s H E) hn hN k0 ks hTn q h⟩
end
def putFld (f : Str) (z : D) : List (D × D) → List (D × D)
  | [] => [(.str f, z)]
  | (.str x, d) :: ps => if x = f then (.str x, z) :: ps else (.str x, d) :: putFld f z ps
  | p :: ps => p :: putFld f z ps
section
variable {K : Fg} {F : Hp}
theorem putFld_rp {f : Str} {z : D} {v : V} (rz : Rp K F v z) : ∀ {fs : List (Str × V)} {ps : List (D × D)}, RpK K F (encF fs) ps → RpK K F (encF (putF f v fs)) (putFld f z ps)
  | [], _, .nil => .cons (k := .inr f) rz .nil
  | (x, w) :: fs, _, .cons (d := d) (ps := ps) r t => by
    show RpK K F (encF (if x = f then (x, v) :: fs else (x, w) :: putF f v fs)) (if x = f then (PyData.str x, z) :: ps else (.str x, d) :: putFld f z ps)
    by_cases e : x = f
    · rw [if_pos e, if_pos e]; exact .cons (k := .inr x) rz t
    · rw [if_neg e, if_neg e]; exact .cons (k := .inr x) r (putFld_rp rz t)
theorem putF_all {f : Str} {v : V} (hf : fldNames.contains f = true) : ∀ {fs : List (Str × V)}, (fs.all fun p => fldNames.contains p.1) = true → ((putF f v fs).all fun p => fldNames.contains p.1) = true
  | [], _ => by show (fldNames.contains f && true) = true; rw [hf]; rfl
  | (x, w) :: fs, h => by
    rw [List.all_cons, Bool.and_eq_true] at h
    show ((if x = f then (x, v) :: fs else (x, w) :: putF f v fs).all fun p => fldNames.contains p.1) = true
    by_cases e : x = f
    · rw [if_pos e, List.all_cons, h.2, Bool.and_true]; exact h.1
    · rw [if_neg e, List.all_cons, putF_all hf h.2, Bool.and_true]; exact h.1
end
def mSetFld (i : Nat) (f : Str) (mv : Ev → Out D) : Ev → Out Fl := fun ρ => (mv ρ).bind fun z ρ1 => match rd ρ1 i with
  | some (.dict ((.none, .str cn) :: (.none, _) :: ps)) => if fldNames.contains f = true ∧ ps.length < 900 then .ok .nx (ρ1.set i (some (insD cn (putFld f z ps)))) else .bad
  | _ => .bad
section
variable {X : Cx} {W : WX} {S : Sg} {pos pos' : Pos} {e : Expr} {mv : Ev → Out D}
theorem own_ins {B : Base} {σ : Sts} {F H : Hp} {ρ : Ev} {i : Nat} {d : D} {K : Fg} (I : SInv K S B σ F H ρ) (k : knd S i = 7) (e : rd ρ i = some d) : ∃ a, σ[i]? = some (some (.ref a)) ∧ OwI K F H a d := by
  obtain ⟨a, bs, e1, w, _⟩ := I.ow i d (rd_some e) (own_of7 k)
  have w2 := w.2
  rw [k] at w2
  exact ⟨a, e1, w2.2⟩
/-- self.f = e -/
theorem ms_setFld (i : Nat) {x f : Str} {p : Pos} (k : knd S i = 7) (hv : PE X (.Name x p) (tVar i)) (he : ME X W S e mv) (hs : swapsWith e (some (.Attribute (.Name x p) f pos')) pos.line X.env = pure false := by rfl) : MS X W S (.Assign [.Attribute (.Name x p) f pos'] e pos) (mSetFld i f mv) := by
  obtain ⟨t, pt, q⟩ := he.ex
  refine ⟨_, ps_fld hv pt hs, fun B F H σ ρ D I h => ?_⟩
  refine q B F H σ ρ _ I ((Sat.bind h).mono (fun z ρ1 h1 F1 H1 y I1 s1 r1 => ?_) fun _ _ z => XSo.ex z)
  split at h1
  · rename_i cn x0 ps0 er
    split at h1
    · rename_i hc
      obtain ⟨a, ea, C, dx, cn', fs, ps, eH, eF, c, rr, ed⟩ := own_ins I1 k er
      have ed : PyData.dict ((.none, .str cn) :: (.none, x0) :: ps0) = insD cn' ps := ed
      injection ed with ed1
      injection ed1 with e1 ed2
      injection ed2 with e2 ed3
      injection e1 with _ e4
      injection e4 with e5
      subst e5
      subst ed3
      have hl := rr.len
      rw [List.length_map] at hl
      refine ⟨.ref a, ea, a, C, dx, fs, rfl, eH, c.1.ic.cl, c.1.ic.na _ hc.1, by omega, ?_⟩
      have hp := I1.topHeld (own_of7 k) ⟨_, rd_some er⟩ ea
      refine h1 F1 _ σ (I1.chg (bs := []) (rd_some er) (own_of7 k) ea hp (fun z => by rw [deep_of7 k] at z; cases z) ⟨by simp, ?_⟩ fun b h => ?_) s1
      · rw [k]
        exact ⟨rfl, C, dx, cn, _, _, upd_same, (I1.heldAt hp).1, ⟨c.1, putF_all hc.1 c.2⟩, putFld_rp r1 rr, rfl⟩
      · have : b = a := by simpa using h
        subst this
        exact hp
    · exact h1.elim
  · exact h1.elim
end
section
variable {X : Cx} {k : Nat} {f C : Addr} {fd : FuncData} {ps : List Str} {sp : Sp} {x : Str} {p pos : Pos} {e : Expr} {es : List Expr} {t : TA} {E : L2.St → XK}
def tMakeG (C : Addr) (sp : Sp) (E : L2.St → XK) (t : TA) : TE := fun σ H Q => t σ H fun vs H1 => ∀ x dx, H1 x = none → H1 dx = none → dx ≠ x →
  sp (.ref x :: vs) (upd (upd H1 dx (.own x)) x (.ins C dx [])) (fun v H2 => v = .non ∧ Q (.ref x) H2) (E σ)
theorem RoomQ.make {A : Around} (r : RoomQ gq (k + 1) A) (C : Addr) (us : List Value) (kw : List (Str × Value)) : RoomQ gq k (A.under (.builtin "type.__call__" ⟨.ref C :: us, kw⟩)) := ⟨r.rm.make C us kw, fun z => by
  have h := r.gd z
  first | exact h | (simp [Around.under, h])⟩
theorem pe_makeG (M : Mk X.K C f) (F : FnQ gq X.prog X.w X.K X.mg X.base k f fd ps sp) (hr : RoomQ gq (k + 1) X.A) (hg : Gl X x) (hm : X.mg x = some (.ref C)) (hb : Binds X.K fd ps []) (hx : ∀ σ, PassesAt (L2.CX X.prog X.w) X σ (E σ))
    (ha : PA X (e :: es) t) (hdb : (x == ("__debug__" : Str)) = false := by decide) (he : starEach (e :: es) X.env = (false, eval e X.env) :: starEach es X.env := by rfl) (hpl : (backTo pos (starEach es X.env)).any (·.1) = false := by rfl) :
    PE X (.Call (.Name x p) (e :: es) [] pos) (tMakeG C sp E t) := by
  refine ⟨fun pins s σ H Q I h => ?_⟩
  refine wpAny_Call_Name_kw (ld_glob I hg hm ?_ hdb)
  refine PySem.W.callWith_K (h₀ := X.base) I.ok.mod.kin M.kp (thn (ha.run pos pins s σ H _ I h) fun us s1 ⟨vs, H1, I1, r, q⟩ => ⟨I1.kIn, ?_⟩) he hpl
  have hq := q (s1.heap.objs.size + 1) s1.heap.objs.size (I1.hok.fresh (Nat.le_succ _)) (I1.hok.fresh (Nat.le_refl _)) (Nat.ne_of_lt (Nat.lt_succ_self _))
  have I2 := Inv.made (C := C) I1
  have r2 : Vals (V.ref (s1.heap.objs.size + 1) :: vs) (Value.ref (s1.heap.objs.size + 1) :: us) := .cons rfl r
  have hl : (Value.ref (s1.heap.objs.size + 1) :: us).length = ps.length := by
    have e := r2.length
    rw [F.len _ _ _ _ hq] at e
    exact e.symm
  have bd : ∀ s', X.K.In s'.heap → BindsTo s' fd ⟨Value.ref (s1.heap.objs.size + 1) :: us, []⟩ (ps.zip (Value.ref (s1.heap.objs.size + 1) :: us)) := fun s' kin => by
    have z := hb s' (Value.ref (s1.heap.objs.size + 1) :: us) kin (by simpa using hl)
    simpa using z
  refine wpAny_call (make_map (f := f) I1.kIn M.makes M.init (beq_iff_eq.mp M.fn) (codeAny_mono (F.run _ X.stack _ _ ⟨Value.ref (s1.heap.objs.size + 1) :: us, []⟩ (Value.ref (s1.heap.objs.size + 1) :: us) _ _ (E σ) (hr.make C us [])
    (I2.env0.make C us []) (bd _ I2.kIn) r2 hq) fun r s' hq' => ?_))
  match r, hq' with
  | .error e, hq' => exact hx σ pins _ _ e s' I2 hq'
  | .ok (.ret u), hq' =>
    obtain ⟨v, H', I3, rv, ev, q3⟩ := I2.after hq'
    subst ev
    exact ⟨rv, ⟨V.ref (s1.heap.objs.size + 1), H', I3, rfl, q3⟩⟩
  | .ok .next, hq' => exact hq'.elim
  | .ok .brk, hq' => exact hq'.elim
  | .ok .cont, hq' => exact hq'.elim
end
def mMake (cn : Str) (m : List D → Out D) (ms : Ev → Out (List D)) : Ev → Out D := fun ρ => (ms ρ).bind fun as ρ1 => match m (insD cn [] :: as) with
  | .ok z zs => (match z, zs.getD 0 none with
    | .none, some d' => .ok d' ρ1
    | _, _ => .bad)
  | .err c _ => .err c ρ1
  | .bad => .bad
section
variable {X : Cx} {W : WX} {S : Sg} {k : Nat} {f C : Addr} {fd : FuncData} {ps : List Str} {x : Str} {p pos : Pos} {e : Expr} {es : List Expr} {m : List D → Out D} {ms : Ev → Out (List D)}
theorem me_make (hC : ClsOf X.K x C) (M : Mk X.K C f) (Fn : FnQ gq X.prog X.w X.K X.mg X.base k f fd ps (spI X.K X.mg (es.length + 1) m)) (hr : RoomQ gq (k + 1) X.A) (hg : Gl X x) (hm : X.mg x = some (.ref C)) (hb : Binds X.K fd ps []) (tk : Takes X W)
    (ha : MA X W S (e :: es) ms) (hdb : (x == ("__debug__" : Str)) = false := by decide) (he : starEach (e :: es) X.env = (false, eval e X.env) :: starEach es X.env := by rfl) (hpl : (backTo pos (starEach es X.env)).any (·.1) = false := by rfl) :
    ME X W S (.Call (.Name x p) (e :: es) [] pos) (mMake x m ms) := by
  obtain ⟨t, pt, q⟩ := ha.ex
  refine ⟨_, pe_makeG M Fn hr hg hm hb (fun σ => passAt tk σ) pt hdb he hpl, fun B F H σ ρ Q I h => ?_⟩
  refine q B F H σ ρ _ I ((Sat.bind h).tell.mono (fun as ρ1 ⟨h1, e1⟩ F1 H1 vs I1 s1 r1 => fun a dx ha0 hd0 hne => ?_) fun _ _ z => z)
  have hel : vs.length = es.length + 1 := by rw [r1.len]; exact ha.len _ _ _ e1
  have I2 := I1.newH (o := .own a) hd0
  have ha2 : upd H1 dx (.own a) a = none := by rw [upd_ne (Ne.symm hne)]; exact ha0
  have I3 := I2.newH (o := .ins C dx []) ha2
  have hF : F1 a = none := Same.free I1.same ha0
  have hB : B.H a = none := I2.bnone ha2
  have hnh : ∀ i b, Held S σ (upd (upd H1 dx (.own a)) a (.ins C dx [])) ρ1 i b → b ≠ a := fun i b hh => by
    have : Held S σ (upd H1 dx (.own a)) ρ1 i b := held_same (fun c ec => by rw [upd_ne (I2.heldNe ha2 i c (I2.topHeld hh.1 hh.2.1 ec))]) hh
    exact I2.heldNe ha2 i b this
  have back : ∀ {F' H' : Hp} {d' : D}, Keeps F1 (upd (upd H1 dx (.own a)) a (.ins C dx [])) F' H' a → OwI X.K F' H' a d' → SInv X.K S B σ F' H' ρ1 := fun {F' H' d'} kk w => by
    obtain ⟨_, _, _, _, _, eH, eF, _⟩ := w
    exact I3.keeps kk (.inl hB) (fun o z => by rw [eF] at z; cases z) (fun o z => by rw [upd_same] at z; cases z; exact soft_ins) hnh
  refine ⟨F1, a, vs, insD x [], as, rfl, hel, I3.same, r1, ⟨C, dx, x, [], [], upd_same, hF, ⟨hC, rfl⟩, .nil, rfl⟩, ?_⟩
  cases e3 : m (insD x [] :: as) with
  | bad => rw [e3] at h1; exact h1.elim
  | err c zs =>
    rw [e3] at h1
    exact fun F' H' C' d' e4 kk w hC' => h1 F' H' C' (back kk w) (s1.trans kk.ff) hC'
  | ok z zs =>
    rw [e3] at h1
    refine fun F' H' v d' e4 kk w rv => ?_
    have h1 : Sat (match z, zs.getD 0 none with | .none, some d' => Out.ok d' ρ1 | _, _ => .bad) _ _ := h1
    rw [e4] at h1
    have J := back kk w
    cases z with
    | none =>
      cases rv
      refine ⟨rfl, ?_⟩
      obtain ⟨C', dx', cn', fs', ps', eH, eF, c', rr, rfl⟩ := w
      have hn2 : ∀ i b, Held S σ H' ρ1 i b → b ≠ a := fun i b hh => by
        have h0 : Held S σ (upd (upd H1 dx (.own a)) a (.ins C dx [])) ρ1 i b := held_same (fun c ec => by
          have ht := J.topHeld hh.1 hh.2.1 ec
          cases z : upd (upd H1 dx (.own a)) a (.ins C dx []) c with
          | none => exact absurd z (I3.heldSome (I3.topHeld hh.1 hh.2.1 ec))
          | some o => exact kk.hs c o z (hnh i c (I3.topHeld hh.1 hh.2.1 ec))) hh
        exact hnh i b h0
      have J2 := J.freeze eF eH (.inl hB) hn2 soft_ins
      exact h1 _ _ _ J2 ((s1.trans kk.ff).trans (same_upd eF)) (.ins upd_same c' (RpK.up (same_upd eF) rr))
    | _ => exact h1.elim
end
end MW
namespace MW
open PySem PySem.Spec PyProof.Rows L2
variable {gq : Bool}
section
variable {K : Fg} {S : Sg} {B : Base} {σ : Sts} {F H F' H' : Hp} {ρ : Ev} {a : Addr} {i : Nat} {d0 d' : D}
/-- what a slot holds is changed by a callee -/
theorem SInv.reown (I : SInv K S B σ F H ρ) (ki : knd S i = 7) (e : ρ[i]? = some (some d0)) (ea : σ[i]? = some (some (.ref a))) (k : Keeps F H F' H' a) (w : OwI K F' H' a d') : SInv K S B σ F' H' (ρ.set i (some d')) := by
  have hp := I.topHeld (own_of7 ki) ⟨d0, e⟩ ea
  have hil : i < ρ.length := (List.getElem?_eq_some_iff.mp e).1
  obtain ⟨hF, hH, hD⟩ := I.heldAt hp
  have so := I.heldSoft hp
  have ne_ : ∀ {j b}, Held S σ H ρ j b → j ≠ i → b ≠ a := fun {j b} hh n z => by subst z; exact n (I.nd j i b hh hp)
  have set_ : ∀ {j : Nat} {x : D}, (ρ.set i (some d'))[j]? = some (some x) → j ≠ i → ρ[j]? = some (some x) := fun {j x} h n => by
    rw [List.getElem?_set_ne (Ne.symm n)] at h; exact h
  have some_ : ∀ {j : Nat}, (∃ x, (ρ.set i (some d'))[j]? = some (some x)) → ∃ x, ρ[j]? = some (some x) := fun {j} ⟨x, h⟩ => by
    by_cases hj : j = i
    · subst hj; exact ⟨d0, e⟩
    · exact ⟨x, set_ h hj⟩
  have same_ : ∀ {j b}, Held S σ H ρ j b → b ≠ a → H' b = H b := fun {j b} hh n => by
    cases z : H b with
    | none => exact absurd z (I.heldSome hh)
    | some o => exact k.hs b o z n
  have held : ∀ {j b}, Held S σ H' (ρ.set i (some d')) j b → Held S σ H ρ j b := fun {j b} ⟨h1, h2, c, ec, h3⟩ => by
    have hc : Held S σ H ρ j c := I.topHeld h1 (some_ h2) ec
    refine ⟨h1, some_ h2, c, ec, ?_⟩
    rcases h3 with z | ⟨dp, xs, e1, m⟩
    · exact .inl z
    · have hj : j ≠ i := fun z => by rw [z, deep_of7 ki] at dp; cases dp
      exact .inr ⟨dp, xs, by rw [← same_ hc (ne_ hc hj)]; exact e1, m⟩
  have none_ : ∀ {j b}, Held S σ H ρ j b → b ≠ a → F' b = none := fun {j b} hh n => by
    cases z : F' b with
    | none => rfl
    | some o =>
      obtain ⟨h1, h2, _⟩ := I.heldAt hh
      rcases k.fr _ _ z with h | h
      · rw [h1] at h; cases h
      · exact absurd h h2
  have w2 := w
  obtain ⟨_, _, _, _, _, _, eF, _⟩ := w2
  refine ⟨by rw [List.length_set]; exact I.len, k.fh, ⟨I.ext.fs.trans k.ff, fun b o e n => ?_, fun b e => I.ext.st b (k.st b e), fun b o e => ?_, tabs_keep I.ext.tb fun b o e n => ?_, I.ext.to, fun q hq => ?_⟩, fun j d e1 kj => ?_, fun j d e1 kj => ?_, fun j l b h1 h2 => I.nd j l b (held h1) (held h2), fun j d e1 kj => ?_, I.pin, I.ts⟩
  · have hb : b ≠ a := fun z => by
      subst z
      rcases hD with h | h
      · exact n h.1
      · rw [h] at e; cases e
    exact k.hs b o (I.ext.hs b o e n) hb
  · rcases k.fr b o e with h | h
    · exact I.ext.fr b o h
    · exact .inr (.inl (I.ext.st b h))
  · have hb : b ≠ a := fun z => by subst z; exact n (so o e)
    exact k.hs b o e hb
  · cases e : F' q.1 with
    | none => rfl
    | some o =>
      rcases k.fr _ _ e with h | h
      · rw [I.ext.tf q hq] at h; cases h
      · obtain ⟨ps, e2⟩ := tabs_at I.ext.tb hq
        rw [h] at e2; cases e2
  · have hj : j ≠ i := fun z => by rw [z, ki] at kj; cases kj
    obtain ⟨v, e2, r⟩ := I.sh j d (set_ e1 hj) kj
    exact ⟨v, e2, r.up k.ff⟩
  · by_cases hj : j = i
    · subst hj
      rw [List.getElem?_set_self hil] at e1
      cases e1
      refine ⟨a, [], ea, ⟨by simp, by rw [ki]; exact ⟨rfl, w⟩⟩, fun b hb => ?_⟩
      have : b = a := by simpa using hb
      subst this
      exact hD
    · obtain ⟨c, bs, e2, w1, o⟩ := I.ow j d (set_ e1 hj) kj
      refine ⟨c, bs, e2, w1.up k.ff fun b hb => ?_, o⟩
      have hh := (w1.held (S := S) kj (set_ e1 hj) e2 b).mpr hb
      have hn := ne_ hh hj
      exact ⟨none_ hh hn, fun o q => by rw [same_ hh hn]; exact q⟩
  · have hj : j ≠ i := fun z => by rw [z, ki] at kj; cases kj
    obtain ⟨l, kk, c, b, xs, d2, e2, e3, e4, e5, e6, e7, e8, e9⟩ := I.al j d (set_ e1 hj) kj
    have hl : l ≠ i := fun z => by rw [z, deep_of7 ki] at e3; cases e3
    have hh := I.topHeld (own_of2 (deep_knd e3)) ⟨d2, e5⟩ e6
    exact ⟨l, kk, c, b, xs, d2, e2, e3, e4, by rw [List.getElem?_set_ne (Ne.symm hl)]; exact e5, e6, by rw [same_ hh (ne_ hh hl)]; exact e7, e8, e9⟩
end
def cxS (P : Program) (w : World) (K : PySem.W.Frag) (mg : Str → Option Value) (base : Heap) (N : List Str) (qual : Str) (scope : Scope) (f : Addr) (cda cc : Addr) (A : Around) (outer : List Env) (s : Shared) (H : Hp) (E : XK) : Cx where
  prog := P
  w := w
  K := K
  mg := mg
  base := base
  A := A.deeper (PySem.W.ksEnv qual scope s.heap.objs.size f (.ref cda) cc)
  N := N
  s_0 := s
  H_0 := H
  env := PySem.W.ksEnv qual scope s.heap.objs.size f (.ref cda) cc
  outer := outer
  stack := PySem.W.ksEnv qual scope s.heap.objs.size f (.ref cda) cc :: outer
  ex := []
  calm := true
  fn := fun x => x != "__class__"
  pn := []
  xe := fun e s' => wpAny (model P w) (A.deeper (PySem.W.ksEnv qual scope s.heap.objs.size f (.ref cda) cc)) (leaving (PySem.W.ksEnv qual scope s.heap.objs.size f (.ref cda) cc) e) (fun _ s'' => L2.CX P w outer H s E e s'') (fun e' s'' => L2.CX P w outer H s E e' s'') s'
structure ScopeS (N P : List Str) (sc : Scope) : Prop where
  kind : sc.kind = .function
  co : sc.isCoroutine = false
  gen : sc.isGenerator = false
  nd : N.Nodup
  pre : N.take P.length = P
  par : ∀ x ∈ P, sc.names.lookup x = some .local
  nocell : ∀ y ∈ sc.names, y.2 ≠ .cell
  free : ∀ y ∈ sc.names, y.2 = .free → y.1 = "__class__"
/-- a def that says super(), with what stands behind it -/
structure FunS (P : Program) (K : PySem.W.Frag) (x qual : Str) (st : Stmt) (f : Addr) (fd : FuncData) (cda cc D : Addr) : Prop where
  ex : ∃ (oc : Value) (od : Option Addr) (kV doc pm : Value) (an : Option Addr) (ct : Value) (osl : Array (Option Value)),
    fd = PySem.W.ksFn x qual (defArgs st) (defBody st) (defScope st) .none kV doc pm an (.ref cda) ct cc ∧ K.lookup f = some ⟨oc, od, .func fd, osl⟩
  cod : PySem.W.codeIn K (.ref cda) qual = true
  rec_ : ∃ (ccl : Value) (cdd : Option Addr) (vs : Array Value) (ccs : Array (Option Value)) (file : Str) (tf : Tok), K.lookup cda = some ⟨ccl, cdd, .fields vs, ccs⟩ ∧ vs[2]? = some (.str file tf) ∧ ((P.main.file : Str) == file) = true
  cel : ∃ (cl : Value) (cld : Option Addr) (csl : Array (Option Value)), K.lookup cc = some ⟨cl, cld, .cell (some (.ref D)), csl⟩
  cls : ∃ cdD, PySem.W.clsIn K D = some cdD
  kp : PySem.W.keepIn K (.ref f) = true
theorem zip_sub : ∀ (ps : List Str) (us : List Value), ((ps.zip us).map (·.1)).Sublist ps
  | [], _ => .slnil
  | _ :: _, [] => List.nil_sublist _
  | p :: ps, u :: us => (zip_sub ps us).cons₂ p
theorem zip_rev {x : Str} {u : Value} : ∀ {ps : List Str} {us : List Value} {i : Nat}, ps.Nodup → ps[i]? = some x → us[i]? = some u → (ps.zip us).reverse.lookup x = some u := by
  intro ps us i nd h1 h2
  have key : ∀ (l : List (Str × Value)), (l.map (·.1)).Nodup → (x, u) ∈ l → l.lookup x = some u := by
    intro l
    induction l with
    | nil => intro _ h; cases h
    | cons p l ih =>
      intro hn hm
      rw [List.map_cons, List.nodup_cons] at hn
      obtain ⟨y, v⟩ := p
      rcases List.mem_cons.mp hm with e | hm
      · cases e; exact List.lookup_cons_self
      · have : (x == y) = false := beq_eq_false_iff_ne.mpr fun z => hn.1 (List.mem_map.mpr ⟨_, hm, z⟩)
        rw [List.lookup_cons, this]
        exact ih hn.2 hm
  refine key _ ?_ (List.mem_reverse.mpr ?_)
  · rw [List.map_reverse, List.nodup_iff_pairwise_ne, List.pairwise_reverse]
    have : ((ps.zip us).map (·.1)).Nodup := by
      exact nd.sublist (zip_sub ps us)
    rw [List.nodup_iff_pairwise_ne] at this
    exact this.imp fun h => h.symm
  · refine List.mem_iff_getElem?.mpr ⟨i, ?_⟩
    rw [List.getElem?_zip_eq_some]
    exact ⟨h1, h2⟩
theorem inv_startS {P : Program} {w : World} {K : PySem.W.Frag} {mg : Str → Option Value} {base : Heap} {N ps : List Str} {qual x : Str} {st : Stmt} {f cda cc D : Addr} {fd : FuncData} {A : Around} {outer : List Env} {s : Shared} {h1 : Heap} {H : Hp} {E : XK} {us : List Value} {vs : List V} {tk : Nat}
    (Fn : FunS P K x qual st f fd cda cc D) (S : ScopeS N ps (defScope st)) (hd : A.handled = none) (e0 : Env0 P w K mg base A outer s H) (hl : vs.length = ps.length) (r : Vals vs us)
    (hns : h1.Ns s.heap.objs.size (fun x => (ps.zip us).reverse.lookup x)) (hk : ∀ b o, s.heap.get? b = some o → h1.get? b = some o) :
    Inv (cxS P w K mg base N qual (defScope st) f cda cc A outer s H E) [] (L2.start N vs) H { s with heap := h1, toks := tk } := by
  have hpl : ps.length ≤ N.length := by have := congrArg List.length S.pre; rw [List.length_take] at this; omega
  have noA : ∀ b : Addr, b ∉ (cxS P w K mg base N qual (defScope st) f cda cc A outer s H E).ex := fun b z => absurd (show b ∈ ([] : List Addr) from z) (by simp)
  obtain ⟨cl, cld, csl, hcell⟩ := Fn.cel
  have cell_ : ∀ {y c}, (cxS P w K mg base N qual (defScope st) f cda cc A outer s H E).env.cells.lookup y = some c → y = "__class__" ∧ c = cc := fun {y c} h => by
    have h : ([("__class__", cc)] : List (Str × Addr)).lookup y = some c := h
    rw [List.lookup_cons] at h
    by_cases e : y = "__class__"
    · rw [e] at h
      simp at h
      exact ⟨e, h.symm⟩
    · rw [show (y == ("__class__" : Str)) = false from beq_eq_false_iff_ne.mpr e] at h
      cases h
  have kbase := e0.mod.kin _ _ hcell
  have kcc := (e0.bs _ _ kbase).1
  have kind_ : ∀ {y k}, (defScope st).names.lookup y = some k → (y, k) ∈ (defScope st).names := fun {y k} h => PySem.mem_of_lookup h
  refine ⟨⟨e0.mod, S.kind, rfl, rfl, Nat.le_refl _, fun y z c h1 h2 => ?_, fun y hy => ?_, fun y c h0 h => ?_, fun _ => hd, Around.frames_deeper e0.frames, .inr ⟨rfl, rfl⟩, fun b z => absurd z (noA b), e0.bs, e0.bsz, fun b _ _ => noA b, fun b z => absurd z (noA b), e0.funs, e0.frf⟩,
    rfl, e0.bare, Un.kept hk, ⟨_, hns, fun i y v h1 h2 h3 => ?_⟩, fun y c h => ?_, e0.hok.fresh (Nat.le_refl _), fun y c h => ?_, fun p hp => absurd (show p ∈ ([] : List (Addr × Obj)) from hp) (by simp), e0.hok.kept hk, ?_⟩
  · rw [(cell_ h1).1, (cell_ h2).1]
  · have hy : (defScope st).names.lookup y = some .cell ∨ (defScope st).names.lookup y = some .free := hy
    rcases hy with hy | hy
    · exact absurd rfl (S.nocell _ (kind_ hy))
    · have := S.free _ (kind_ hy) rfl
      have this : y = "__class__" := this
      subst this
      exact ⟨cc, List.lookup_cons_self⟩
  · have := (cell_ h).1
    subst this
    exact absurd h0 (by show ¬ ((("__class__" : Str) != "__class__") = true); simp)
  · have hi : i < vs.length := by
      unfold L2.start at h2
      by_cases hi : i < vs.length
      · exact hi
      · rw [List.getElem?_append_right (by simpa using hi)] at h2
        rw [List.getElem?_replicate] at h2
        split at h2 <;> cases h2
    have ha : vs[i]? = some v := by
      unfold L2.start at h2
      rw [List.getElem?_append_left (by simpa using hi), List.getElem?_map] at h2
      cases e : vs[i]? with
      | none => rw [e] at h2; cases h2
      | some a => rw [e] at h2; cases h2; rfl
    obtain ⟨u, hu, rv⟩ := r.get ha
    have hp : ps[i]? = some y := by
      rw [← S.pre, List.getElem?_take_of_lt (by omega)]; exact h1
    have ndP : ps.Nodup := by rw [← S.pre]; exact S.nd.sublist (List.take_sublist _ _)
    exact ⟨u, rv, .inl ⟨S.par y (List.mem_of_getElem? hp), zip_rev ndP hp hu⟩⟩
  · rw [(cell_ h).2]
    exact ⟨_, _, hk _ _ kcc, rfl⟩
  · rw [(cell_ h).2]
    exact (e0.bs _ _ kbase).2
  · unfold L2.start
    show _ = N.length
    rw [List.length_append, List.length_map, List.length_replicate]
    omega
structure PSA (X : Cx) (b0 : List Stmt) (sts : List Stmt) (t : TS) : Prop where
  run : ∀ (pins : List (Addr × Obj)) (s : Shared) (σ : L2.St) (H : Hp) (D : Ends), Inv X pins σ H s → t D σ H → _root_.PySem.wpAt (model X.prog X.w) X.A (.func b0 X.env) (execs sts X.env) (SP X pins D) X.xe s
structure PSA1 (X : Cx) (b0 : List Stmt) (st : Stmt) (t : TS) : Prop where
  run : ∀ (pins : List (Addr × Obj)) (s : Shared) (σ : L2.St) (H : Hp) (D : Ends), Inv X pins σ H s → t D σ H → _root_.PySem.wpAt (model X.prog X.w) X.A (.func b0 X.env) (exec st X.env) (SP X pins D) X.xe s
section
variable {X : Cx} {b0 : List Stmt} {st : Stmt} {sts : List Stmt} {t u : TS}
theorem psa_of (h : PSs X sts t) : PSA X b0 sts t := ⟨fun pins s σ H D I q => wpAt_of_wpAny (h.run pins s σ H D I q)⟩
theorem psa1_of (h : PS X st t) : PSA1 X b0 st t := ⟨fun pins s σ H D I q => wpAt_of_wpAny (h.run pins s σ H D I q)⟩
theorem psa_cons (h1 : PSA1 X b0 st t) (h2 : PSA X b0 sts u) : PSA X b0 (st :: sts) (tSeq t u) := by
  refine ⟨fun pins s σ H D I h => ?_⟩
  refine ks_wpAt_execs_cons (ks_wpAt_mono (h1.run pins s σ H { D with nx := u D } I h) (fun f s1 q => ?_) fun _ _ z => z)
  cases f with
  | next =>
    obtain ⟨σ', H', I', q⟩ := q
    exact h2.run pins s1 σ' H' D I' q
  | ret v => exact q
  | brk => exact q
  | cont => exact q
end
structure MSA (X : Cx) (b0 : List Stmt) (W : WX) (S : Sg) (sts : List Stmt) (m : Ev → Out Fl) : Prop where
  ex : ∃ t : TS, PSA X b0 sts t ∧ ∀ B F H σ ρ D, SInv X.K S B σ F H ρ → Sat (m ρ) (FKo X.K S B F D) (XSo X W S B F) → t D σ H
structure MSA1 (X : Cx) (b0 : List Stmt) (W : WX) (S : Sg) (st : Stmt) (m : Ev → Out Fl) : Prop where
  ex : ∃ t : TS, PSA1 X b0 st t ∧ ∀ B F H σ ρ D, SInv X.K S B σ F H ρ → Sat (m ρ) (FKo X.K S B F D) (XSo X W S B F) → t D σ H
section
variable {X : Cx} {b0 : List Stmt} {W : WX} {S : Sg} {st : Stmt} {sts : List Stmt} {m n : Ev → Out Fl}
theorem msa_of (h : MSs X W S sts m) : MSA X b0 W S sts m := let ⟨t, p, q⟩ := h.ex; ⟨t, psa_of p, q⟩
theorem msa1_of (h : MS X W S st m) : MSA1 X b0 W S st m := let ⟨t, p, q⟩ := h.ex; ⟨t, psa1_of p, q⟩
theorem msa_cons (h1 : MSA1 X b0 W S st m) (h2 : MSA X b0 W S sts n) : MSA X b0 W S (st :: sts) (mSeq m n) := by
  obtain ⟨t, p, q⟩ := h1.ex
  obtain ⟨u, p', q'⟩ := h2.ex
  refine ⟨_, psa_cons p p', fun B F H σ ρ D I h => ?_⟩
  refine q B F H σ ρ _ I (h.bind.mono (fun fl ρ1 h1 F1 H1 σ1 I1 s1 => ?_) fun _ _ z => z)
  cases fl with
  | nx => exact q' B F1 H1 σ1 ρ1 D I1 (Sat.mono h1 (fun fl ρ2 h2 => FKo.up s1 h2) fun _ _ z => XSo.up s1 z)
  | bk => exact h1 F1 H1 σ1 I1 s1
  | ct => exact h1 F1 H1 σ1 I1 s1
  | rt d => exact h1 F1 H1 σ1 I1 s1
end
section
variable {P : Program} {w : World} {K : PySem.W.Frag} {mg : Str → Option Value} {base : Heap}
theorem FnQ.ofS {x qual : Str} {st : Stmt} {f cda cc D : Addr} {fd : FuncData} {ps N : List Str} {sp : Sp} {k : Nat} (Fn : FunS P K x qual st f fd cda cc D) (S : ScopeS N ps (defScope st)) (len : ∀ vs H Q E, sp vs H Q E → vs.length = ps.length)
    (body : ∀ (A : Around) (outer : List Env) (s : Shared) (H : Hp) (vs : List V) (Q : VK) (E : XK), RoomQ gq k (A.deeper (PySem.W.ksEnv qual (defScope st) s.heap.objs.size f (.ref cda) cc)) → sp vs H Q E →
      ∃ t, PSA (cxS P w K mg base N qual (defScope st) f cda cc A outer s H E) (defBody st) (defBody st) t ∧ t { nx := fun _ H' => Q .non H', rt := Q } (L2.start N vs) H) : FnQ gq P w K mg base (k + 1) f fd ps sp := by
  obtain ⟨oc, od, kV, doc, pm, an, ct, osl, rfl, lk⟩ := Fn.ex
  constructor
  · exact len
  intro A outer s H args us vs Q E hr e0 hb rv hsp
  have hvs : vs.length = ps.length := len _ _ _ _ hsp
  have keep := fun b o e => (e0.bs b o e).1
  have kin : K.In s.heap := e0.mod.kin.keeps keep
  have nolim : s.heap.NoLimit := e0.mod.nolimit.keeps keep
  refine ks_codeAny_call_defAt (body := defBody st) (binds := ps.zip us) hr.rm.depth (kin _ _ lk) rfl nolim (PySem.W.codeRec_of kin Fn.cod) rfl hb S.nocell (fun y hy => S.par y.1 (List.of_mem_zip (show (y.1, y.2) ∈ ps.zip us from hy)).1) (fun h1 hns hk => ?_) S.co S.gen S.kind
  obtain ⟨t, ht, hq⟩ := body A outer s H vs Q E (hr.deeper _) hsp
  have I0 := inv_startS (w := w) (N := N) (E := E) (tk := s.toks + (ps.zip us).length) Fn S hr.rm.hd e0 hvs rv hns hk
  have run := ht.run [] _ (L2.start N vs) H _ I0 hq
  refine ks_wpAt_mono run (fun fl s' hs => ?_) fun e s' hs => hs
  have ends : ∀ {σ' : L2.St} {H' : Hp} {v : V} {u : Value}, Inv (cxS P w K mg base N qual (defScope st) f cda cc A outer s H E) [] σ' H' s' → RelV v u → Q v H' → CE outer P w H s Q u s' := by
    intro σ' H' v u J ru q
    exact ⟨v, H', J.os, J.bare, J.base, J.hok, ru, q⟩
  match fl, hs with
  | .ret u, ⟨v, σ', H', J, ru, q⟩ => exact ends J ru q
  | .next, ⟨σ', H', J, q⟩ => exact ends (v := V.non) (u := Value.none) J rfl q
  | .brk, ⟨_, _, _, q⟩ => exact q.elim
  | .cont, ⟨_, _, _, q⟩ => exact q.elim
/-- __init__ that says super() -/
theorem def_okSup {x qual : Str} {st : Stmt} {f cda cc D : Addr} {fd : FuncData} {N ps : List Str} {k : Nat} (S : Sg) (n : Nat) {mb : Ev → Out Fl} (Fn : FunS P K x qual st f fd cda cc D) (Sc : ScopeS N ps (defScope st)) (hps : ps.length = n + 1) (hn : S.np = n + 1) (hN : n + 1 ≤ N.length) (k0 : knd S 0 = 7) (ks : (List.range n).all (fun i => knd S (i + 1) == 0) = true)
    (hbody : ∀ (A : Around) (outer : List Env) (s : Shared) (H : Hp) (E : XK), RoomQ gq k (A.deeper (PySem.W.ksEnv qual (defScope st) s.heap.objs.size f (.ref cda) cc)) →
      MSA (cxS P w K mg base N qual (defScope st) f cda cc A outer s H E) (defBody st) (fun c d _ H => E c d H) S (defBody st) mb) (hTn : S.T = [] := by rfl) :
    FnQ gq P w K mg base (k + 1) f fd ps (spI K mg n (mDef S N.length mb)) := by
  refine FnQ.ofS Fn Sc (fun vs H Q E h => ?_) (fun A outer s H vs Q E hr h => ?_)
  · obtain ⟨_, _, us, _, _, rfl, hl, _⟩ := h
    rw [List.length_cons, hl, hps]
  · obtain ⟨t, p, q⟩ := (hbody A outer s H E hr).ex
    exact ⟨t, p, def_satI (X := cxS P w K mg base N qual (defScope st) f cda cc A outer s H E) hn hN k0 ks hTn q h⟩
end
structure SupOk (K : Fg) (C D : Addr) (m : Str) (f2 : Addr) : Prop where
  sub : PySem.W.mroIn K C (.ref D) = some true
  at_ : PySem.W.ks_superIn K C D m = some (some (.ref f2))
def tSup (K : Fg) (D : Addr) (m : Str) (f2 : Addr) (sp : Sp) (E : L2.St → XK) (t : TA) : TE := fun σ H Q => ∃ a C dx fs, σ[0]? = some (some (.ref a)) ∧ H a = some (.ins C dx fs) ∧ SupOk K C D m f2 ∧
  t σ H fun vs H2 => sp (.ref a :: vs) H2 Q (E σ)
section
variable {P : Program} {w : World} {K : PySem.W.Frag} {mg : Str → Option Value} {base : Heap} {N : List Str} {qual x m : Str} {st : Stmt} {f cda cc D f2 : Addr} {fd fd2 : FuncData} {ps2 : List Str} {A : Around} {outer : List Env} {s0 : Shared} {H0 : Hp} {E0 : XK} {sp2 : Sp} {k2 : Nat} {E : L2.St → XK} {t : TA} {e : Expr} {es : List Expr} {p0 p1 apos pos : Pos} {ar : Arg}
theorem run_fnQc {X : Cx} {pins : List (Addr × Obj)} {σ : L2.St} {H : Hp} {s : Shared} {Q : VK} {us : List Value} {vs : List V} {f : Addr} {fd : FuncData} {ps : List Str} {sp : Sp} {k : Nat} (F : FnQ gq X.prog X.w X.K X.mg X.base k f fd ps sp) (hr : RoomQ gq k X.A) (hb : Binds X.K fd ps []) (hx : PassesAt (L2.CX X.prog X.w) X σ (E σ))
    (I : Inv X pins σ H s) (r : Vals vs us) (h : sp vs H Q (E σ)) : codeAny (model X.prog X.w) X.A (.call (.ref f) ⟨us, []⟩) (fun r s' => match r with | .ok (.ret v) => EP X pins σ Q v s' | .ok _ => False | .error e => X.xe e s') s := by
  have n : us.length = ps.length := by rw [← F.len _ _ _ _ h, r.length]
  have bd : BindsTo s fd ⟨us, []⟩ (ps.zip us) := by
    have z := hb s us I.kIn (by simpa using n)
    simpa using z
  refine codeAny_mono (F.run X.A X.stack s H ⟨us, []⟩ us vs Q (E σ) hr I.env0 bd r h) fun r s' hq => ?_
  match r, hq with
  | .error e, hq => exact hx pins H s e s' I hq
  | .ok (.ret u), hq => exact I.after hq
  | .ok .next, hq => exact hq.elim
  | .ok .brk, hq => exact hq.elim
  | .ok .cont, hq => exact hq.elim
theorem pea_super {pl : Sem Bool} {Q : VK} {X : Cx} (hX : X = cxS P w K mg base N qual (defScope st) f cda cc A outer s0 H0 E0) (Fn : FunS P K x qual st f fd cda cc D) (hop : PySem.W.nsIn K cStatics "thirdparty.any" = some none) (hms : mg "super" = none) (htop : (P.main.scope.names.lookup ("super" : Str)).isSome = false)
    (hsu : (defScope st).names.lookup ("super" : Str) = some .globalImplicit) (hcl : (defScope st).names.lookup ("__class__" : Str) = some .free) (hk : (defScope st).kind = .function) (har : ((defArgs st).posonlyargs ++ (defArgs st).args).head? = some ar) (hkl : (defScope st).names.lookup ar.arg = some .local) (hN0 : N[0]? = some ar.arg)
    (Fn2 : FnQ gq P w K mg base k2 f2 fd2 ps2 sp2) (hr : RoomQ gq k2 X.A) (hb : Binds K fd2 ps2 []) (hf2 : PySem.W.fnIn K f2 = true) (hty : PySem.W.typeIn K (.ref f2) = some (.type "function")) (hm : (m == ("__class__" : Str)) = false)
    (hx : ∀ σ, PassesAt (L2.CX P w) X σ (E σ)) (ha : PA X (e :: es) t)
    {pins : List (Addr × Obj)} {s : Shared} {σ : L2.St} {H : Hp} (I : Inv X pins σ H s) (h : tSup K D m f2 sp2 E t σ H Q)
    (he : starEach (e :: es) X.env = (false, eval e X.env) :: starEach es X.env) (hpl : (backTo pos (starEach es X.env)).any (·.1) = false)
    (ht : eval (.Call (.Attribute (.Call (.Name "super" p0) [] [] p1) m apos) (e :: es) [] pos) X.env = (do
      let ov ← attributeBase (.Call (.Name "super" p0) [] [] p1) m X.env (eval (.Call (.Name "super" p0) [] [] p1) X.env)
      standAt apos.atName
      let (f, first) ← holding [ov] (getMethod ov m pl)
      callWith pos f first (backTo pos (starEach (e :: es) X.env)) [])) {b0 : List Stmt} :
    _root_.PySem.wpAt (model P w) X.A (.func b0 X.env) (eval (.Call (.Attribute (.Call (.Name "super" p0) [] [] p1) m apos) (e :: es) [] pos) X.env)
      (EP X pins σ Q) X.xe s := by
  subst hX
  obtain ⟨oc, od, kV, doc, pm, an, ct, osl, rfl, lk⟩ := Fn.ex
  obtain ⟨ccl, cdd, vs, ccs, file, tf, lcd, hvs, hfile⟩ := Fn.rec_
  obtain ⟨cl, cld, csl, lcc⟩ := Fn.cel
  obtain ⟨cdD, lD⟩ := Fn.cls
  obtain ⟨a, C, dx, fs, ea, eH, so, q⟩ := h
  have XK : K.In s.heap := I.kIn
  obtain ⟨oD, hD1, hD2⟩ : ∃ oD, s.heap.get? D = some oD ∧ oD.data = .cls cdD := by
    unfold PySem.W.clsIn at lD
    split at lD
    · rename_i c d cd' sl ho
      cases lD
      exact ⟨_, XK _ _ ho, rfl⟩
    · cases lD
  obtain ⟨mA, O, _, _, _, _⟩ := ins_get I.hok eH
  obtain ⟨od2, J, _⟩ := O.look
  obtain ⟨mm, hns, hloc⟩ := I.loc
  obtain ⟨u, ru, lu⟩ := hloc 0 ar.arg (.ref a) hN0 ea (.inl hkl)
  obtain rfl : u = Value.ref a := ru
  have hmm : mm ar.arg = some (.ref a) := by
    rcases lu with ⟨_, h2⟩ | ⟨h2, _⟩
    · exact h2
    · have hke : (cxS P w K mg base N qual (defScope st) f cda cc A outer s0 H0 E0).env.kindOf ar.arg = some .local := hkl
      rcases h2 with h2 | h2 <;> (rw [hke] at h2; cases h2)
  refine ks_wpAt_MethodCall ?_ ht
  refine ks_wpAt_super_base (env := (cxS P w K mg base N qual (defScope st) f cda cc A outer s0 H0 E0).env) hsu hcl hm rfl (XK _ _ lk) rfl har rfl (XK _ _ lcd) rfl hvs hfile htop ?_
  obtain ⟨mb, hb1, hb2⟩ := I.mod.blt
  refine PySem.W.ks_loadName_global hk hsu (Calls.loadGlobal_builtin (env := (cxS P w K mg base N qual (defScope st) f cda cc A outer s0 H0 E0).env) (I.mod.glob.keeps I.bk) hms (hb1.keeps I.bk) ((hb2 _ (by decide)).trans (by decide +kernel)) ⟨rfl, ?_⟩)
  refine wpAny_loadName_free hk hcl rfl ⟨_, XK _ _ lcc, rfl⟩ ?_
  refine wpAny_loadName_local hk hkl hns hmm ?_
  refine ks_wpAny_isType_cls hD1 hD2 ⟨rfl, ?_⟩
  obtain ⟨hh, g, d, tt, os⟩ := s
  refine ks_wpAny_call_super hD1 hD2 J.at_ J.cls (fun c e => ?_) (PySem.W.looks_mroIn XK so.sub) (fun h' e k => ?_)
  · have := J.no
    unfold PySem.W.notCls at this
    rw [e] at this
    exact Bool.noConfusion this
  have I1 : Inv (cxS P w K mg base N qual (defScope st) f cda cc A outer s0 H0 E0) ((hh.objs.size, PySem.W.ks_superObj D a C) :: pins) σ H ⟨h', g, d, tt, os⟩ := ClX.pin_new (t' := tt) I k (Nat.le_refl _) e (fun v z => nomatch z)
  cases hc : PySem.W.clsIn K C with
  | none =>
    have := so.at_
    unfold PySem.W.ks_superIn at this
    rw [hc] at this
    cases this
  | some cd =>
    have hat := so.at_
    unfold PySem.W.ks_superIn at hat
    rw [hc] at hat
    obtain ⟨of, hof, hofc⟩ : ∃ of, h'.get? f2 = some of ∧ of.cls = .type "function" := by
      have ht' : (K.lookup f2).map (·.cls) = some (.type "function") := hty
      cases z : K.lookup f2 with
      | none => rw [z] at ht'; cases ht'
      | some of => rw [z] at ht'; exact ⟨of, I1.kIn _ _ z, Option.some.inj ht'⟩
    refine ks_wpAny_getMethod_super (ClX.pin_at I1) (PySem.W.looks_opaque I1.kIn hop) (l₀ := cd.mro) (fun A Q E s k q => wpAny_bind ((PySem.W.looks_clsIn I1.kIn hc) A _ E s k (wpAny_pure q))) rfl I1.kIn hat hof hofc (PySem.W.ks_ne XK J hc) hm ?_
    have I2 := ClX.met_new (g := f2) (C := a) I1
    have hbn : (cxS P w K mg base N qual (defScope st) f cda cc A outer s0 H0 E0).base.get? h'.objs.size = none := ClX.base_none I1 (Nat.le_refl _)
    refine ClX.callwith_cm I2 hbn hf2 (thn (ha.run pos _ _ σ H _ I2 q) fun us s3 ⟨vs', H2, I3, rv, q2⟩ => ⟨⟨ClX.pin_at I3, I3.kIn⟩, ?_⟩) he hpl
    have z := wpAny_call (PySem.W.method_call (ClX.pin_at I3) (run_fnQc (us := .ref a :: us) (vs := .ref a :: vs') Fn2 hr hb (hx σ) I3 (.cons rfl rv) q2))
    exact thn z fun _ _ y => ClX.unpinE (ClX.unpinE y)
end
def mSup (dn : Str) (m : List D → Out D) (ms : Ev → Out (List D)) : Ev → Out Fl := fun ρ => match rd ρ 0 with
  | some (.dict ((.none, .str cn) :: _)) => if supOf cn dn = true then (ms ρ).bind fun as ρ1 => match rd ρ1 0 with
    | some d0 => (match m (d0 :: as) with
      | .ok _ zs => (match zs.getD 0 none with
        | some d' => .ok .nx (ρ1.set 0 (some d'))
        | none => .bad)
      | .err c zs => (match zs.getD 0 none with
        | some d' => .err c (ρ1.set 0 (some d'))
        | none => .bad)
      | .bad => .bad)
    | none => .bad
    else .bad
  | _ => .bad
section
variable {P : Program} {w : World} {K : PySem.W.Frag} {mg : Str → Option Value} {base : Heap} {N : List Str} {qual x nm dn : Str} {st : Stmt} {f cda cc Dc f2 : Addr} {fd fd2 : FuncData} {ps2 : List Str} {A : Around} {outer : List Env} {s0 : Shared} {H0 : Hp} {E0 : XK} {m2 : List D → Out D} {k2 : Nat} {e : Expr} {es : List Expr} {p0 p1 apos pos spos : Pos} {ar : Arg}
variable {W : WX} {S : Sg} {ms : Ev → Out (List D)}
theorem msa_super {pl : Sem Bool} {X : Cx} (hX : X = cxS P w K mg base N qual (defScope st) f cda cc A outer s0 H0 E0) (k0 : knd S 0 = 7) (Fn : FunS P K x qual st f fd cda cc Dc) (hop : PySem.W.nsIn K cStatics "thirdparty.any" = some none) (hms : mg "super" = none) (htop : (P.main.scope.names.lookup ("super" : Str)).isSome = false)
    (hsu : (defScope st).names.lookup ("super" : Str) = some .globalImplicit) (hcl : (defScope st).names.lookup ("__class__" : Str) = some .free) (hk : (defScope st).kind = .function) (har : ((defArgs st).posonlyargs ++ (defArgs st).args).head? = some ar) (hkl : (defScope st).names.lookup ar.arg = some .local) (hN0 : N[0]? = some ar.arg)
    (hdn : PySem.W.nsIn K mainGlobals dn = some (some (.ref Dc))) (hat : PySem.W.ks_superIn K Dc Dc nm = some (some (.ref f2))) (hsa : supAttrs.contains nm = true)
    (Fn2 : FnQ gq P w K mg base k2 f2 fd2 ps2 (spI K mg (es.length + 1) m2)) (hr : RoomQ gq k2 X.A) (hb : Binds K fd2 ps2 []) (hf2 : PySem.W.fnIn K f2 = true) (hty : PySem.W.typeIn K (.ref f2) = some (.type "function")) (hm : (nm == ("__class__" : Str)) = false)
    (tk : Takes X W) (ha : MA X W S (e :: es) ms)
    (he : starEach (e :: es) X.env = (false, eval e X.env) :: starEach es X.env) (hpl : (backTo pos (starEach es X.env)).any (·.1) = false)
    (ht : eval (.Call (.Attribute (.Call (.Name "super" p0) [] [] p1) nm apos) (e :: es) [] pos) X.env = (do
      let ov ← attributeBase (.Call (.Name "super" p0) [] [] p1) nm X.env (eval (.Call (.Name "super" p0) [] [] p1) X.env)
      standAt apos.atName
      let (f, first) ← holding [ov] (getMethod ov nm pl)
      callWith pos f first (backTo pos (starEach (e :: es) X.env)) []))
    (hi : interactive X.env = false) (hsw : swapsWith (.Call (.Attribute (.Call (.Name "super" p0) [] [] p1) nm apos) (e :: es) [] pos) none spos.line X.env = pure false) {b0 : List Stmt} :
    MSA1 X b0 W S (.Expr (.Call (.Attribute (.Call (.Name "super" p0) [] [] p1) nm apos) (e :: es) [] pos) spos) (mSup dn m2 ms) := by
  obtain ⟨t, pt, q⟩ := ha.ex
  have hp : X.prog = P := by rw [hX]; rfl
  have hw : X.w = w := by rw [hX]; rfl
  have hK : X.K = K := by rw [hX]; rfl
  have hmg : X.mg = mg := by rw [hX]; rfl
  refine ⟨fun D σ H => tSup K Dc nm f2 (spI K mg (es.length + 1) m2) (fun σ => WE W σ) t σ H fun _ H' => D.nx σ H', ⟨fun pins s σ H D I h => ?_⟩, fun B F H σ ρ D I h => ?_⟩
  · have z := pea_super (b0 := b0) hX Fn hop hms htop hsu hcl hk har hkl hN0 Fn2 hr hb hf2 hty hm (E := fun σ => WE W σ) (fun σ => by
      have := passAt tk σ
      rw [hp, hw] at this
      exact this) pt I h he hpl ht
    rw [hp, hw]
    refine ks_wpAt_Expr_any (ks_wpAt_mono z (fun v s' hv => ?_) fun _ _ z => z) hi hsw
    obtain ⟨_, H', I', _, q'⟩ := hv
    exact ⟨σ, H', I', q'⟩
  · rw [hK] at I
    unfold mSup at h
    split at h
    · rename_i cn ps er
      obtain ⟨a, ea, C, dx, cn', fs, ps', eH, eF, c, rr, ed⟩ := own_ins I k0 er
      have ed : PyData.dict ((.none, .str cn) :: ps) = insD cn' ps' := ed
      injection ed with ed1
      injection ed1 with e1 ed2
      injection e1 with _ e4
      injection e4 with e5
      subst e5
      split at h
      · rename_i hs
        obtain ⟨h1, h2⟩ := c.1.sup dn Dc hs hdn
        refine ⟨a, C, dx, fs, ea, eH, ⟨h1, (h2 nm hsa).trans hat⟩, ?_⟩
        refine q B F H σ ρ _ (by rw [hK]; exact I) ((Sat.bind h).tell.mono (fun as ρ1 ⟨g1, e2⟩ F1 H1 vs I1 s1 r1 => ?_) fun _ _ z => XSo.ex z)
        rw [hK] at I1 r1
        have hel : vs.length = es.length + 1 := by rw [r1.len]; exact ha.len _ _ _ e2
        cases er1 : rd ρ1 0 with
        | none => rw [er1] at g1; exact g1.elim
        | some d0 =>
          rw [er1] at g1
          obtain ⟨a', ea', w1⟩ := own_ins I1 k0 er1
          rw [ea] at ea'
          cases ea'
          refine ⟨F1, a, vs, d0, as, rfl, hel, I1.same, r1, w1, ?_⟩
          have g1 : Sat (match m2 (d0 :: as) with
            | .ok _ zs => (match zs.getD 0 none with | some d' => Out.ok Fl.nx (ρ1.set 0 (some d')) | none => .bad)
            | .err c zs => (match zs.getD 0 none with | some d' => .err c (ρ1.set 0 (some d')) | none => .bad)
            | .bad => .bad) _ _ := g1
          cases e3 : m2 (d0 :: as) with
          | bad => rw [e3] at g1; exact g1.elim
          | ok z zs =>
            rw [e3] at g1
            refine fun F' H' v d' e4 kk w2 rv => ?_
            have g1 : Sat (match zs.getD 0 none with | some d' => Out.ok Fl.nx (ρ1.set 0 (some d')) | none => .bad) _ _ := g1
            rw [e4] at g1
            have J := I1.reown k0 (rd_some er1) ea kk w2
            exact g1 F' H' σ (by rw [hK]; exact J) (s1.trans kk.ff)
          | err c zs =>
            rw [e3] at g1
            refine fun F' H' C' d' e4 kk w2 hC' => ?_
            have g1 : Sat (match zs.getD 0 none with | some d' => Out.err c (ρ1.set 0 (some d')) | none => .bad) _ _ := g1
            rw [e4] at g1
            have J := I1.reown k0 (rd_some er1) ea kk w2
            exact g1 F' H' σ C' (by rw [hK]; exact J) (s1.trans kk.ff) (by rw [hmg]; exact hC')
      · exact h.elim
    · exact h.elim
end
end MW
namespace MW
open PySem PySem.Spec PyProof.Rows L2 GenW
variable {gq : Bool}
def tGIf (tc : TT) (tb to : TGn) : TGn := fun D ys σ H => tc σ H fun b H1 => if b = true then tb D ys σ H1 else to D ys σ H1
theorem gs_if {X : Cx} {test : Expr} {body orelse : List Stmt} {pos : Pos} {tc : TT} {tb to : TGn} (hc : PT X test tc) (hb : GSs X body tb) (ho : GSs X orelse to) : GS X (.If test body orelse pos) (tGIf tc tb to) := by
  refine ⟨fun A S ip R n ys s₀ c fs K J gd lv s σ H D g hn k hI ht => ?_⟩
  obtain ⟨acc, cc, r, I⟩ := hI
  rw [exec_If]
  refine seg_bind_wrap (wpAny_standAt ?_)
  refine seg_bind_wrap ?_
  rw [g.over]
  refine wpAny_mono (hc.run _ s σ H _ I ht) (fun b s1 h1 => ?_) fun x s' hx => k.exc n s₀ x s' hx
  obtain ⟨H1, I1, q⟩ := h1
  cases b with
  | true => exact hb.run A S ip R n ys s₀ c fs K J gd lv s1 σ H1 D g hn k ⟨acc, cc, r, I1⟩ (by rw [if_pos rfl] at q; exact q)
  | false => exact ho.run A S ip R n ys s₀ c fs K J gd lv s1 σ H1 D g hn k ⟨acc, cc, r, I1⟩ (by rw [if_neg Bool.false_ne_true] at q; exact q)
def genIf (g : Ev → D → Option Ev) (mt : Ev → Out Bool) (me : Ev → Out D) : List D → Ev → Out (List D)
  | [], ρ => .ok [] ρ
  | d :: ds, ρ => (Out.of (g ρ d) ρ).bind fun ρ1 _ => (mt ρ1).bind fun b ρ2 => if b = true then (me ρ2).bind fun y ρ3 => (genIf g mt me ds ρ3).bind fun ys ρ4 => .ok (y :: ys) ρ4 else genIf g mt me ds ρ2
/-- yield e1, then for tg in ..: if t: yield e2 -/
def mGYF (S : Sg) (me1 : Ev → Out D) (mi : Ev → Out (List D)) (g : Ev → D → Option Ev) (mt : Ev → Out Bool) (me : Ev → Out D) : Ev → Out (List D) := fun ρ => (me1 ρ).bind fun y ρ1 => (mi ρ1).bind fun items ρ2 => if items.length < 1000000 then (genIf g mt me items ρ2).bind fun ys ρ3 => .ok (y :: ys) ρ3 else .bad
section
variable {X : Cx} {W : WX} {S : Sg} {pos pos2 pos3 pos4 yp yp1 : Pos}
set_option maxHeartbeats 1000000 in
theorem mgn_yf {tg iter test e1 e : Expr} {me1 : Ev → Out D} {mi : Ev → Out (List D)} {t : TG} {vs : List Nat} {g : Ev → D → Option Ev} {mt : Ev → Out Bool} {me : Ev → Out D} (hp : PassesOwn (model X.prog X.w) X.A X.env X.xe) (hc : X.calm = true) (hown : (List.range S.np).all (fun i => !own S i) = true) (h1 : ME X W S e1 me1) (hi : MI X W S tg iter mi) (hg : MG X S tg t vs g) (ht : MT X W S test mt) (he : ME X W S e me) (hco : X.env.scope.isCoroutine = false := by rfl) (hin : interactive X.env = false := by rfl)
    (hs : ∀ x, foldedSetIterable iter X.env x = pure x := by intro _; rfl) : MGS X W S [.Expr (.Yield (some e1) yp1) pos3, .For tg iter [.If test [.Expr (.Yield (some e) yp) pos2] [] pos4] [] pos] (mGYF S me1 mi g mt me) := by
  obtain ⟨t1, p1, q1⟩ := h1.ex
  obtain ⟨w, pw, qw⟩ := hi.ex
  obtain ⟨tt, pt, qt⟩ := ht.ex
  obtain ⟨te, pe, qe⟩ := he.ex
  have hsz := sizeLine_eq
  refine ⟨_, gss_cons (gs_yield p1 hco hin) (gss_cons (gs_for hp hc pw hg.pg (gss_cons (gs_if pt (gss_cons (gs_yield pe hco hin) gss_nil) gss_nil) gss_nil) hs) gss_nil), fun B F H σ ρ Q Rt I h => ⟨by rw [hsz]; decide, ?_⟩⟩
  refine q1 B F H σ ρ _ I (h.bind.mono (fun y0 ρ0 h0 F0 H0 v0 I0 s0 r0 => ?_) fun _ _ z => XSo.ex z)
  refine qw B F0 H0 σ ρ0 _ I0 (h0.bind.mono (fun items ρ1 h1 F1 H1 J I1 s1 wd hl => ?_) fun _ _ z => XSo.ex (XSo.up s0 z))
  by_cases hlen : items.length < 1000000
  rotate_left
  · rw [if_neg hlen] at h1; exact h1.elim
  rw [if_pos hlen] at h1
  have h1 := Sat.bind h1
  have fin : ∀ {F2 F' : Hp} {zs : List D} {us : List V}, True := fun {_ _ _ _} => trivial
  refine ⟨fun i m ys σ H => m = items.length - i ∧ i ≤ items.length ∧ ∃ F2 ρ2 zs, SInv X.K S B σ F2 H ρ2 ∧ Same F1 F2 ∧ RpL X.K F2 ys zs ∧ ys.length ≤ i + 1 ∧ Sat (genIf g mt me (items.drop i) ρ2) (fun ds _ => ∀ F' H' σ' us ρ', SInv X.K S B σ' F' H' ρ' → Same F2 F' → RpL X.K F' us (zs ++ ds) → chk S (outs S ρ') = true → Q us H') (XSo X W S B F2),
    ⟨_, rfl, Nat.zero_le _, F1, ρ1, [y0], I1, Same.refl _, .cons (r0.up s1) .nil, Nat.le_refl _, Sat.mono h1 (fun ds ρ2 h2 F' H' σ' us ρ' I' s' r' => h2 F' H' σ' us ρ' I' ((s0.trans s1).trans s') r') fun _ _ z => XSo.up (s0.trans s1) z⟩, ?_⟩
  rintro i m ys σ2 H2 ⟨rfl, hi, F2, ρ2, zs, I2, s2, ry, ly, h2⟩
  by_cases hlt : i < items.length
  · refine .inr ⟨wd.goes i H2 hlt (s2.trans I2.same), fun ys' σ' H' => (i + 1 ≤ items.length ∧ ∃ F3 ρ3 zs, SInv X.K S B σ' F3 H' ρ3 ∧ Same F1 F3 ∧ RpL X.K F3 ys' zs ∧ ys'.length ≤ i + 1 + 1 ∧ Sat (genIf g mt me (items.drop (i + 1)) ρ3) (fun ds _ => ∀ F' H' σ' us ρ', SInv X.K S B σ' F' H' ρ' → Same F3 F' → RpL X.K F' us (zs ++ ds) → chk S (outs S ρ') = true → Q us H') (XSo X W S B F3)), fun ys' σ' H' hN => ⟨items.length - (i + 1), by omega, rfl, hN.1, hN.2⟩, fun x H' y => ?_⟩
    have hd : items.drop i = items[i] :: items.drop (i + 1) := List.drop_eq_getElem_cons hlt
    rw [hd] at h2
    obtain ⟨ρ3, hg3, h3⟩ := sat_of (Sat.bind (show Sat ((Out.of (g ρ2 items[i]) ρ2).bind _) _ _ from h2))
    have go : ∀ F4 H4, SInv X.K S B σ2 F4 H4 ρ2 → Same F2 F4 → Rp X.K F4 x items[i] → t x σ2 H4 fun σ5 H5 => tGThen (tGIf tt (tGThen (tGYield te) tG0) tG0) tG0 { nx := fun ys' σ' H' => (i + 1 ≤ items.length ∧ ∃ F3 ρ3 zs, SInv X.K S B σ' F3 H' ρ3 ∧ Same F1 F3 ∧ RpL X.K F3 ys' zs ∧ ys'.length ≤ i + 1 + 1 ∧ Sat (genIf g mt me (items.drop (i + 1)) ρ3) (fun ds _ => ∀ F' H' σ' us ρ', SInv X.K S B σ' F' H' ρ' → Same F3 F' → RpL X.K F' us (zs ++ ds) → chk S (outs S ρ') = true → Q us H') (XSo X W S B F3)), rt := Rt, ct := fun ys' σ' H' => (i + 1 ≤ items.length ∧ ∃ F3 ρ3 zs, SInv X.K S B σ' F3 H' ρ3 ∧ Same F1 F3 ∧ RpL X.K F3 ys' zs ∧ ys'.length ≤ i + 1 + 1 ∧ Sat (genIf g mt me (items.drop (i + 1)) ρ3) (fun ds _ => ∀ F' H' σ' us ρ', SInv X.K S B σ' F' H' ρ' → Same F3 F' → RpL X.K F' us (zs ++ ds) → chk S (outs S ρ') = true → Q us H') (XSo X W S B F3)), bk := fun ys _ H' => Q ys H' } ys σ5 H5 := fun F4 H4 I4 s4 r4 => by
      refine hg.ok B F4 H4 σ2 ρ2 x items[i] ρ3 _ I4 r4 hg3 fun σ5 I5 _ => ?_
      refine qt B F4 H4 σ5 ρ3 _ I5 ((Sat.bind h3).mono (fun b ρ5 h5 F5 H5 I6 s5 => ?_) fun _ _ z => XSo.ex (XSo.up s4 z))
      cases b with
      | false =>
        rw [if_neg Bool.false_ne_true] at h5 ⊢
        exact ⟨hlt, F5, ρ5, zs, I6, (s2.trans s4).trans s5, ry.up (s4.trans s5), by omega, h5.mono (fun ds ρ7 h7 F' H' σ' us ρ' I' s' r' => h7 F' H' σ' us ρ' I' ((s4.trans s5).trans s') r') fun _ _ z => XSo.up (s4.trans s5) z⟩
      | true =>
        rw [if_pos rfl] at h5 ⊢
        refine ⟨by omega, ?_⟩
        refine qe B F5 H5 σ5 ρ5 _ I6 ((Sat.bind h5).mono (fun d ρ6 h6 F6 H6 v I7 s6 r6 => ?_) fun _ _ z => XSo.ex (XSo.up (s4.trans s5) z))
        refine ⟨hlt, F6, ρ6, zs ++ [d], I7, ((s2.trans s4).trans s5).trans s6, (ry.up ((s4.trans s5).trans s6)).app (.one r6), by rw [List.length_append]; simp; omega, (Sat.bind h6).mono (fun ds ρ7 h7 F' H' σ' us ρ' I' s' r' => h7 F' H' σ' us ρ' I' (((s4.trans s5).trans s6).trans s') (by rw [List.append_assoc] at r'; exact r')) fun _ _ z => XSo.up ((s4.trans s5).trans s6) z⟩
    rcases wd.yields i H2 x H' items[i] (by simp [hlt]) (s2.trans I2.same) y with ⟨rfl, r⟩ | ⟨T, o, xs, ds, rfl, hT, ho, rfl, r, e⟩
    · exact go F2 H' I2 (Same.refl _) (r.up s2)
    · have hF : F2 T = none := Same.free I2.same hT
      have sF := same_upd (o := .frz o (.tup xs)) hF
      refine go (upd F2 T (.frz o (.tup xs))) _ (I2.newF hT) sF ?_
      rw [e]
      exact .tup (.inl ⟨o, ho, upd_same⟩) ((r.up s2).up sF)
  · have e : i = items.length := by omega
    subst e
    rw [List.drop_length] at h2
    refine .inl ⟨wd.stops H2 (s2.trans I2.same), h2 F2 H2 σ2 ys ρ2 I2 (Same.refl _) (by rw [List.append_nil]; exact ry) ?_⟩
    refine List.all_eq_true.mpr fun i hi => ?_
    have := List.all_eq_true.mp hown i hi
    rw [this]; rfl
end
def tGenV (M : Addr → Prop) (m : Str) (sp : SpG) (E : XK) (ta : TE) (t : TA) : TGen := fun σ H cont => ta σ H fun x H1 => ∃ a C dx fs, x = .ref a ∧ H1 a = some (.ins C dx fs) ∧ M C ∧ fs.lookup m = none ∧
  t σ H1 fun vs H2 => sp (x :: vs) H2 cont E
section
variable {X : Cx} {k : Nat} {f : Addr} {fd : FuncData} {ps : List Str} {sp : SpG} {m : Str} {pos' apos : Pos} {o e : Expr} {es : List Expr} {ta : TE} {t : TA} {E : XK}
theorem pgen_methV {pl : Sem Bool} {M : Addr → Prop} (he : PE X o ta) (hM : ∀ C, M C → Cls X.K C ∧ Meth X.K C m f) (F : GFn X.prog X.w X.K X.mg X.base k f fd ps sp) (hr : Room k X.A) (hb : Binds X.K fd ps []) (ha : PA X (e :: es) t)
    (hst : starEach (e :: es) X.env = (false, eval e X.env) :: starEach es X.env := by rfl) (hpl : (backTo pos' (starEach es X.env)).any (·.1) = false := by rfl)
    (ht : eval (.Call (.Attribute o m apos) (e :: es) [] pos') X.env = (do
      let ov ← eval o X.env
      standAt apos.atName
      let (f, first) ← holding [ov] (getMethod ov m pl)
      callWith pos' f first (backTo pos' (starEach (e :: es) X.env)) (backToKw pos' (keywordEach [] X.env))) := by rfl) :
    PGen X k (.Call (.Attribute o m apos) (e :: es) [] pos') (tGenV M m sp E ta t) E := by
  refine ⟨fun pins s σ H cont I h => ?_⟩
  refine PySem.W.methodCall_KW (pl := pl) (thn (he.run pins s σ H _ I h) fun u s1 ⟨x, H1, I1, rx, a, C, dx, fs, ex, ea, hm, l, q⟩ => ?_) ht
  subst ex
  obtain rfl : u = Value.ref a := rx
  obtain ⟨c, me⟩ := hM C hm
  refine getmeth_ok I1 ea c me l ?_
  refine PySem.W.callWith_K (first := [.ref a]) (h₀ := X.base) I.ok.mod.kin me.kp (thn (ha.run pos' pins s1 σ H1 _ I1 q) fun us s2 ⟨vs, H2, I2, r, q2⟩ => ⟨I2.kIn, ?_⟩) hst hpl
  exact run_gfn (us := .ref a :: us) (vs := .ref a :: vs) (ds := []) (dvs := []) F hr hb .nil I2 (.cons rfl r) (by rw [List.append_nil]; exact q2)
end
def mCallGV (m : List D → Out (List D)) (mo : Ev → Out D) (ms : Ev → Out (List D)) : Ev → Out (List D) := fun ρ => (mo ρ).bind fun d ρ1 => if vwIs (fun _ => true) d = true then (ms ρ1).bind fun as ρ2 => (match m (d :: as) with
  | .ok ys _ => .ok ys ρ2
  | _ => .bad) else .bad
section
variable {X : Cx} {W : WX} {S : Sg} {k : Nat} {f Vw : Addr} {fd : FuncData} {ps : List Str} {m : List D → Out (List D)} {nm ln : Str} {pos pos' apos p : Pos} {o e : Expr} {es : List Expr} {mo : Ev → Out D} {ms : Ev → Out (List D)}
theorem ml_genMeth {pl : Sem Bool} (hV : PySem.W.nsIn X.K mainGlobals "View" = some (some (.ref Vw))) (Mp : Meth X.K Vw nm f) (Fn : GFn X.prog X.w X.K X.mg X.base k f fd ps (spMG X.K X.mg (List.replicate (es.length + 2) false) m)) (hr : Room (k + 3) X.A) (hb : Binds X.K fd ps []) (ho : ME X W S o mo) (ha : MA X W S (e :: es) ms)
    (hgl : Gl X ln) (hml : X.mg ln = none) (hv : bootBuiltins ln = some (.type "list")) (hm : viewAttrs.contains nm = true := by decide) (hn : fldNames.contains nm = false := by decide) (hnm : ln ≠ "__name__" := by decide) (hdl : (ln == ("__debug__" : Str)) = false := by decide) (he : starEach (e :: es) X.env = (false, eval e X.env) :: starEach es X.env := by rfl) (hpl : (backTo pos' (starEach es X.env)).any (·.1) = false := by rfl)
    (hel : starEach [Expr.Call (.Attribute o nm apos) (e :: es) [] pos'] X.env = (false, eval (.Call (.Attribute o nm apos) (e :: es) [] pos') X.env) :: starEach [] X.env := by rfl)
    (ht : eval (.Call (.Attribute o nm apos) (e :: es) [] pos') X.env = (do
      let ov ← eval o X.env
      standAt apos.atName
      let (f, first) ← holding [ov] (getMethod ov nm pl)
      callWith pos' f first (backTo pos' (starEach (e :: es) X.env)) (backToKw pos' (keywordEach [] X.env))) := by rfl) :
    ML X W S (.Call (.Name ln p) [.Call (.Attribute o nm apos) (e :: es) [] pos'] [] pos) (mCallGV m mo ms) := by
  obtain ⟨t0, p0, q0⟩ := ho.ex
  obtain ⟨t, pt, q⟩ := ha.ex
  refine ⟨_, pe_listG (k := k) (E := fun _ _ _ => False) (pgen_methV (M := VwC X.K fun _ => true) p0 (fun C h => ⟨vw_cls h, vw_meth h hV hm Mp⟩) Fn (hr.mono (by omega)) hb pt he hpl ht) (fun pins σ H s e' s' I c => ?_) (fun _ _ _ z => z.elim) hr hgl hml hv hnm hdl hel, fun B F H σ ρ Q I h => ?_⟩
  · obtain ⟨_, _, _, _, _, _, _, _, _, _, _, _, _, z⟩ := c
  · refine q0 B F H σ ρ _ I ((Sat.bind h).mono (fun d ρ0 h0 F0 H0 v I0 s0 r0 => ?_) fun _ _ z => z)
    by_cases hvw : vwIs (fun _ => true) d = true
    rotate_left
    · rw [if_neg hvw] at h0; exact h0.elim
    rw [if_pos hvw] at h0
    obtain ⟨a, C, dx, fs, rfl, ea, hC, al⟩ := vw_at I0.same r0 hvw
    refine ⟨a, C, dx, fs, rfl, ea, hC, lookup_none hn al, ?_⟩
    refine q B F0 H0 σ ρ0 _ I0 ((Sat.bind h0).tell.mono (fun ds ρ1 ⟨h1, e1⟩ F1 H1 vs I1 s1 r1 => ?_) fun _ _ z => XKo.up s0 z)
    have hel : ds.length = es.length + 1 := ha.len _ _ _ e1
    have A := rpL_arg (σ := σ) (.cons (r0.up s1) r1)
    have hlen : (d :: ds).length = es.length + 2 := by rw [List.length_cons, hel]
    have hos : List.replicate (es.length + 2) false = (List.replicate (d :: ds).length (none : Option Nat)).map Option.isSome := by rw [hlen]; simp
    have ho : (List.replicate (d :: ds).length (none : Option Nat)).all (fun k => k.all (fun i => knd S i == 1)) = true := List.all_eq_true.mpr fun o hm => by rw [(List.mem_replicate.mp hm).2]; rfl
    have hnd : ((List.replicate (d :: ds).length (none : Option Nat)).filterMap id).Nodup := by simp
    obtain ⟨hl, Jc⟩ := call_start I1 A resolve_none hos ho hnd
    refine ⟨_, F1, d :: ds, hl, Jc, ?_⟩
    cases e3 : m (d :: ds) with
    | bad => rw [e3] at h1; exact h1.elim
    | err c os => rw [e3] at h1; exact h1.elim
    | ok ys os =>
      rw [e3] at h1
      intro F' H' us b s' r p hp
      have I2 := call_back I1 A resolve_none hos ho hnd b
      rw [wback_none] at I2
      exact LKo.mk (fun F2 H2 p2 xs2 J2 s2 => h1 F2 H2 p2 xs2 J2 (((s0.trans s1).trans s').trans s2)) I2 r hp
end
section
variable {X : Cx} {W : WX} {S : Sg} {pos p : Pos} {x f : Str} {C : Addr} {mc u : Value} {v : V} {d : D}
theorem me_cval (hg : Gl X x) (hm : X.mg x = some (.ref C)) (hr : ClX.CRead X.K C mc) (hv : ClX.CVal X.K C mc f v u) (rp : ∀ F, Rp X.K F v d) (hb : attributeBase (.Name x p) f X.env (eval (.Name x p) X.env) = eval (.Name x p) X.env := by rfl) (hd : (x == ("__debug__" : Str)) = false := by decide) : ME X W S (.Attribute (.Name x p) f pos) (mC d) :=
  ⟨_, ClX.pe_cval (pe_glob (v := .ref C) hg hm rfl hd) hb, fun B F H σ ρ Q I h => ⟨C, mc, v, u, rfl, hr, hv, h.now I (rp F)⟩⟩
end
end MW
namespace MW
open PySem PySem.Spec PyProof.Rows L2
theorem super_of {K : Fg} {C V : Addr} {cd cv : ClassData} {m : Str} (h : PySem.W.clsIn K C = some cd) (hv : PySem.W.clsIn K V = some cv) (mr : cd.mro = .ref C :: cv.mro) : PySem.W.ks_superIn K C C m = PySem.W.findIn K (.ref V) m := by
  unfold PySem.W.ks_superIn
  rw [h]
  show PySem.W.alongIn K m ((cd.mro.dropWhile (· != .ref C)).drop 1) = _
  rw [mr, show ((Value.ref C :: cv.mro).dropWhile (· != .ref C)).drop 1 = cv.mro by simp [List.dropWhile_cons]]
  unfold PySem.W.clsIn at hv
  split at hv
  · rename_i c d cd' sl ho
    cases hv
    show _ = (match K.lookup V with
      | some ⟨_, _, .cls cd, _⟩ => PySem.W.alongIn K m cd.mro
      | _ => none)
    rw [ho]
  · cases hv
section
variable {K : Fg} {cn : Str} {C V : Addr} {v1 v2 v3 v4 v5 v6 v7 v8 v9 : Option (Option Value)}
theorem insCls_mk (c1 : PySem.W.plainGet K C Str.empty = true) (c2 : PySem.W.hasDictIn K C = true) (c3 : PySem.W.plainOver K C = true) (c4 : PySem.W.findIn K (.ref C) "__setattr__" = some (some (.builtin "object.__setattr__")))
    (ha : PySem.W.findIn K (.ref C) "__class__" = some (some (.builtin "object.__class__"))) (hn : PySem.W.specialIn K (.builtin "object.__class__") "__get__" = some (some (.builtin "getset_descriptor.__get__"))) (htk : PySem.W.takesIn K (.builtin "object.__class__") = some true) (hm : PySem.W.mroIn K C (.type "object") = some true)
    (n1 : PySem.W.findIn K (.ref C) "_shown" = some none) (n2 : PySem.W.findIn K (.ref C) "_table" = some none) (n3 : PySem.W.findIn K (.ref C) "_kept" = some none) (n4 : PySem.W.findIn K (.ref C) "_log" = some none) (n5 : PySem.W.findIn K (.ref C) "_tuples" = some none) (n6 : PySem.W.findIn K (.ref C) "_wishes" = some none)
    (n7 : PySem.W.findIn K (.ref C) "_views" = some none) (n8 : PySem.W.findIn K (.ref C) "_state" = some none) (n9 : PySem.W.findIn K (.ref C) "_before" = some none) (n10 : PySem.W.findIn K (.ref C) "_desk" = some none) (n11 : PySem.W.findIn K (.ref C) "_number" = some none)
    (k1 : PySem.W.kitOne K (.ref C) (.type "int") = some false) (k2 : PySem.W.kitOne K (.ref C) (.type "bool") = some false) (k3 : PySem.W.kitOne K (.ref C) (.type "str") = some false) (k4 : PySem.W.kitOne K (.ref C) (.type "list") = some false) (k5 : PySem.W.kitOne K (.ref C) (.type "tuple") = some false) : InsCls K C := by
  refine ⟨⟨c1, c2, c3, c4⟩, ha, hn, htk, hm, fun f hf => ?_, fun T hT => ?_⟩
  · have h := List.contains_iff_mem.mp hf
    simp only [fldNames, List.mem_cons, List.not_mem_nil, or_false] at h
    rcases h with rfl | rfl | rfl | rfl | rfl | rfl | rfl | rfl | rfl | rfl | rfl <;> assumption
  · have h := List.contains_iff_mem.mp hT
    simp only [insTs, List.mem_cons, List.not_mem_nil, or_false] at h
    rcases h with rfl | rfl | rfl | rfl | rfl <;> assumption
theorem clsOf_mk (hcn : cn ≠ "LoggedView") (nm : PySem.W.nsIn K mainGlobals cn = some (some (.ref C))) (nV : PySem.W.nsIn K mainGlobals "View" = some (some (.ref V))) (ic : InsCls K C) (ms : PySem.W.mroIn K C (.ref C) = some true)
    (p1 : PySem.W.findIn K (.ref C) "shown" = v1) (p2 : PySem.W.findIn K (.ref C) "table" = v2) (p3 : PySem.W.findIn K (.ref C) "parts" = v3) (p4 : PySem.W.findIn K (.ref C) "value_at" = v4) (p5 : PySem.W.findIn K (.ref C) "may" = v5) (p6 : PySem.W.findIn K (.ref C) "reachable" = v6) (p7 : PySem.W.findIn K (.ref C) "__eq__" = v7) (p8 : PySem.W.findIn K (.ref C) "__repr__" = v8) (p9 : PySem.W.findIn K (.ref C) "put" = v9)
    (r1 : PySem.W.findIn K (.ref V) "shown" = v1) (r2 : PySem.W.findIn K (.ref V) "table" = v2) (r3 : PySem.W.findIn K (.ref V) "parts" = v3) (r4 : PySem.W.findIn K (.ref V) "value_at" = v4) (r5 : PySem.W.findIn K (.ref V) "may" = v5) (r6 : PySem.W.findIn K (.ref V) "reachable" = v6) (r7 : PySem.W.findIn K (.ref V) "__eq__" = v7) (r8 : PySem.W.findIn K (.ref V) "__repr__" = v8) (r9 : PySem.W.findIn K (.ref V) "put" = v9) : ClsOf K cn C := by
  have one : ∀ {W : Addr}, PySem.W.nsIn K mainGlobals "View" = some (some (.ref W)) → W = V := fun {W} h => by
    have e := h.symm.trans nV
    injection e with e
    injection e with e
    injection e with e
  refine ⟨nm, ic, fun _ W hW f hf => ?_, fun dn D hs hD => ?_, fun _ _ W hW => ?_⟩
  · have := one hW
    subst this
    have h := List.contains_iff_mem.mp hf
    simp only [viewAttrs, List.mem_cons, List.not_mem_nil, or_false] at h
    rcases h with rfl | rfl | rfl | rfl | rfl | rfl | rfl | rfl
    · exact p1.trans r1.symm
    · exact p2.trans r2.symm
    · exact p3.trans r3.symm
    · exact p4.trans r4.symm
    · exact p5.trans r5.symm
    · exact p6.trans r6.symm
    · exact p7.trans r7.symm
    · exact p8.trans r8.symm
  · have hd : cn = dn := by
      simp only [supOf, Bool.or_eq_true, Bool.and_eq_true, beq_iff_eq] at hs
      rcases hs with h | ⟨h, _⟩
      · exact h
      · exact absurd h hcn
    subst hd
    have e := hD.symm.trans nm
    injection e with e
    injection e with e
    injection e with e
    subst e
    exact ⟨ms, fun _ _ => rfl⟩
  · have := one hW
    subst this
    exact p9.trans r9.symm
end
theorem FunS.binds {P : Program} {K : PySem.W.Frag} {x qual : Str} {st : Stmt} {f cda cc D : Addr} {fd : FuncData} {ps : List Str} (F : FunS P K x qual st f fd cda cc D)
    (h : ∀ (kV doc pm : Value) (an : Option Addr) (ct : Value) (us : List Value), us.length = ps.length → bindArgs (PySem.W.ksFn x qual (defArgs st) (defBody st) (defScope st) .none kV doc pm an (.ref cda) ct cc) ⟨us, []⟩ = pure (ps.zip us)) : Binds K fd ps [] := by
  obtain ⟨oc, od, kV, doc, pm, an, ct, osl, rfl, _⟩ := F.ex
  exact Binds.all fun us hl => h kV doc pm an ct us hl
end MW
namespace MW
open PySem PySem.Spec PyProof.Rows L2
end MW
namespace MW
open PySem PySem.Spec PyProof.Rows L2
end MW
namespace MW
open PySem PySem.Spec PyProof.Rows L2
end MW
namespace MW
open PySem PySem.Spec PyProof.Rows L2
end MW
namespace MW
open PySem PySem.Spec PyProof.Rows L2
end MW
namespace MW
open PySem PySem.Spec PyProof.Rows L2
end MW
namespace MW
open PySem PySem.Spec PyProof.Rows L2
end MW
namespace Pf
open PySem MW
abbrev N_is_whole : List Str := ["thing"]
abbrev S_is_whole : Sg := ⟨[0], 1, [], []⟩
def mb_is_whole : Ev → Out Fl := (mRet (mAndV (mIsD "int" (mVar 0)) (mNotV (mIsD "bool" (mVar 0)))))
def m_is_whole : List D → Out D := mDef S_is_whole 1 mb_is_whole
abbrev N_is_below : List Str := ["thing", "limit"]
abbrev S_is_below : Sg := ⟨[0, 0], 2, [], []⟩
def mb_is_below : Ev → Out Fl := (mRet (mAndV (mCallD m_is_whole [none] (mCons (mVar 0) mNil)) (mOfB (mChainT bLe bLt (mC (.int 0)) (mVar 0) (mVar 1)))))
def m_is_below : List D → Out D := mDef S_is_below 2 mb_is_below
abbrev N_is_view : List Str := ["thing", "number"]
abbrev S_is_view : Sg := ⟨[0, 0], 1, [], []⟩
def mb_is_view : Ev → Out Fl := (mSeq (mIfS (mOrB (mNotB (mTru (mIsD "tuple" (mVar 0)))) (mNotB (mChainT bLe bLe (mC (.int 1)) (mCall gLen (mCons (mVar 0) mNil)) (mC (.int 9)))))
    (mRet (mC (.bool false)))
    mNext)
  (mSeq (mIfS (mNotB (mTru (mCall gAll (mCons (mLst (mLc (mSeqD (mVar 0)) (gN 1) mYes (mCallD m_is_below [none, none] (mCons (mVar 1) (mCons (mCall gLen (mCons (mVar 0) mNil)) mNil))) [1])) mNil))))
    (mRet (mC (.bool false)))
    mNext)
  (mRet (mBin (gB bEq) (mUn gLenSet (mVar 0)) (mBin gAdd (mCall gMax (mCons (mVar 0) mNil)) (mC (.int 1)))))))
def m_is_view : List D → Out D := mDef S_is_view 2 mb_is_view
abbrev N_need_view : List Str := ["view"]
abbrev S_need_view : Sg := ⟨[0], 1, [], []⟩
def mb_need_view : Ev → Out Fl := (mIfS (mNotB (mTru (mCallD m_is_view [none] (mCons (mVar 0) mNil))))
    (fun ρ => .err "NoView" ρ)
    mNext)
def m_need_view : List D → Out D := mDef S_need_view 1 mb_need_view
abbrev N_count_values : List Str := ["view"]
abbrev S_count_values : Sg := ⟨[0], 1, [], []⟩
def mb_count_values : Ev → Out Fl := (mRet (mBin gAdd (mCall gMax (mCons (mVar 0) mNil)) (mC (.int 1))))
def m_count_values : List D → Out D := mDef S_count_values 1 mb_count_values
abbrev N__is_row : List Str := ["view", "thing", "entry"]
abbrev S__is_row : Sg := ⟨[0, 0, 0], 2, [], []⟩
def mb__is_row : Ev → Out Fl := (mSeq (mIfS (mOrB (mNotB (mTru (mIsD "tuple" (mVar 1)))) (mTest bNe (mCall gLen (mCons (mVar 1) mNil)) (mCallD m_count_values [none] (mCons (mVar 0) mNil))))
    (mRet (mC (.bool false)))
    mNext)
  (mRet (mCall gAll (mCons (mLst (mLc (mSeqD (mVar 1)) (gN 2) mYes (mOrV (mBin (gB bIs) (mVar 2) (mC .none)) (mCallD m_is_below [none, none] (mCons (mVar 2) (mCons (mCall gLen (mCons (mVar 0) mNil)) mNil)))) [2])) mNil))))
def m__is_row : List D → Out D := mDef S__is_row 3 mb__is_row
abbrev N_is_table : List Str := ["view", "thing", "row"]
abbrev S_is_table : Sg := ⟨[0, 0, 0], 2, [], []⟩
def mb_is_table : Ev → Out Fl := (mSeq (mDrop (mCallD m_need_view [none] (mCons (mVar 0) mNil)))
  (mSeq (mIfS (mOrB (mNotB (mTru (mIsD "tuple" (mVar 1)))) (mTest bNe (mCall gLen (mCons (mVar 1) mNil)) (mCall gLen (mCons (mVar 0) mNil))))
    (mRet (mC (.bool false)))
    mNext)
  (mRet (mCall gAll (mCons (mLst (mLc (mSeqD (mVar 1)) (gN 2) mYes (mCallD m__is_row [none, none] (mCons (mVar 0) (mCons (mVar 2) mNil))) [2])) mNil)))))
def m_is_table : List D → Out D := mDef S_is_table 3 mb_is_table
abbrev N__law_cell_at : List Str := ["_law_script", "_law_k"]
abbrev S__law_cell_at : Sg := ⟨[0, 0], 2, [], []⟩
def mb__law_cell_at : Ev → Out Fl := (mSeq (mIfS (mTest bLt (mVar 1) (mCall gLen (mCons (mVar 0) mNil)))
    (mRet (mBin gIx (mVar 0) (mVar 1)))
    mNext)
  (mRet (mC (.int 0))))
def m__law_cell_at : List D → Out D := mDef S__law_cell_at 2 mb__law_cell_at
abbrev N__law_pen : List Str := ["_law_cell"]
abbrev S__law_pen : Sg := ⟨[0], 1, [], []⟩
def mb__law_pen : Ev → Out (List D) := (mCons (mCall gMax (mCons (mC (.int 0)) (mCons (mBin gSub (mVar 0) (mBin gPow (mC (.int 10)) (mC (.int 18)))) mNil))) (mCons (mBin gMod (mVar 0) (mC (.int 1000000007))) (mCons (mC (.int 0)) mNil)))
def m__law_pen : List D → Out (List D) := mDefL 1 mb__law_pen
abbrev N__law_draw : List Str := ["_law_pen_here", "_law_many", "_law_stir", "_law_digit"]
abbrev S__law_draw : Sg := ⟨[1, 0, 0, 0], 2, [], []⟩
def mb__law_draw : Ev → Out Fl := (mSeq (mIfS (mTest bGt (mOwnBin gIx 0 (mC (.int 0))) (mC (.int 0)))
    (mSeq (mSet 3 (mBin gMod (mOwnBin gIx 0 (mC (.int 0))) (mVar 1)))
  (mSeq (mStore 0 (mBin gDiv (mOwnBin gIx 0 (mC (.int 0))) (mVar 1)) (mC (.int 0)))
  (mRet (mVar 3))))
    mNext)
  (mSeq (mStore 0 (mBin gAdd (mOwnBin gIx 0 (mC (.int 2))) (mC (.int 1))) (mC (.int 2)))
  (mSeq (mSet 2 (mBin gMod (mBin gMul (mBin gAdd (mOwnBin gIx 0 (mC (.int 1))) (mBin gMul (mC (.int 17)) (mOwnBin gIx 0 (mC (.int 2))))) (mBin gAdd (mC (.int 69621)) (mBin gMul (mC (.int 2)) (mOwnBin gIx 0 (mC (.int 2)))))) (mC (.int 2147483647))))
  (mSeq (mSet 2 (mBin gMod (mBin gAdd (mBin gAdd (mBin gMul (mVar 2) (mVar 2)) (mBin gMul (mC (.int 40503)) (mOwnBin gIx 0 (mC (.int 2))))) (mC (.int 5))) (mC (.int 2147483629))))
  (mRet (mBin gMod (mBin gDiv (mBin gMod (mBin gMul (mVar 2) (mC (.int 48271))) (mC (.int 2147483647))) (mC (.int 32))) (mVar 1)))))))
def m__law_draw : List D → Out D := mDef S__law_draw 4 mb__law_draw
abbrev S__law_parts : Sg := ⟨[1, 0, 1, 0, 0, 0, 0, 0], 2, [], []⟩
def mb__law_parts : Ev → Out Fl := (mSeq (mSetL 2 mNil)
  (mSeq (mFor (mRange1 (mCons (mCall gLen (mCons (mVar 1) mNil)) mNil)) (gN 3)
    (mSeq (mSet 4 (mLst (mLc (mRange1 (mCons (mCallO gLen 2) mNil)) (gN 6) (mTest bNotIn (mBin gIx (mVar 1) (mVar 3)) (mLst (mLc (mSeqD (mOwnBin gIx 2 (mVar 6))) (gN 7) mYes (mBin gIx (mVar 1) (mVar 7)) [7]))) (mVar 6) [6])))
  (mSeq (mSet 5 (mCallD m__law_draw [some 0, none] (mLend 0 (mCons (mBin gAdd (mCall gLen (mCons (mVar 4) mNil)) (mC (.int 2))) mNil))))
  (mIfS (mTest bLt (mVar 5) (mCall gLen (mCons (mVar 4) mNil)))
    (mStore 2 (mBin gAdd (mOwnBin gIx 2 (mBin gIx (mVar 4) (mVar 5))) (mTup (mCons (mVar 3) mNil))) (mBin gIx (mVar 4) (mVar 5)))
    (mDrop (mUpd 2 fApp (mCons (mTup (mCons (mVar 3) mNil)) mNil)))))))
  (mRet (mCall gTupleOf (mCons (mLst (mCallOL gSorted 2)) mNil)))))
def m__law_parts : List D → Out D := mDef S__law_parts 8 mb__law_parts
abbrev S__law_table : Sg := ⟨[0, 0, 2, 0, 0, 0, 0], 2, [], []⟩
def mb__law_table : Ev → Out Fl := (mSeq (mSetLL S__law_table 2 (mLc (mSeqD (mVar 0)) (gN 4) mYes (mLst (mBinL lMul (mLst (mCons (mC .none) mNil)) (mBin gAdd (mCall gMax (mCons (mVar 0) mNil)) (mC (.int 1))))) [4]))
  (mSeq (mFor (mSeqD (mVar 1)) (gN 3)
    (mFor (mSeqD (mVar 3)) (gN 4)
    (mFor (mSeqD (mVar 3)) (gN 5)
    (mStore2 2 (mVar 5) (fun ρ => rd ρ 4) (fun ρ => ((fun ρ => rd ρ 0) ρ).bind fun d => ((fun ρ => rd ρ 5) ρ).bind fun e => gIx d e)))))
  (mRet (mCall gTupleOf (mCons (mLst (mLc (mSeqD (mMoveD S__law_table 2)) (gN 6) mYes (mCall gTupleOf (mCons (mVar 6) mNil)) [6])) mNil)))))
def m__law_table : List D → Out D := mDef S__law_table 7 mb__law_table
abbrev N_need_table : List Str := ["view", "table"]
abbrev S_need_table : Sg := ⟨[0, 0], 2, [], []⟩
def mb_need_table : Ev → Out Fl := (mIfS (mNotB (mTru (mCallD m_is_table [none, none] (mCons (mVar 0) (mCons (mVar 1) mNil)))))
    (fun ρ => .err "NoTable" ρ)
    mNext)
def m_need_table : List D → Out D := mDef S_need_table 2 mb_need_table
abbrev N__broken_forget : List Str := ["table", "state", "row", "value", "result", "other", "entry"]
abbrev S__broken_forget : Sg := ⟨[0, 0, 0, 0, 0, 0, 0], 1, [], []⟩
def mb__broken_forget : Ev → Out Fl := (mSeq (mFor (mEnum (mCons (mVar 0) mNil)) (gN2 1 2)
    (mFor (mEnum (mCons (mVar 2) mNil)) (gN2 3 4)
    (mSeq (mIfS (mTest bIs (mVar 4) (mC .none))
    (fun ρ => .ok .ct ρ)
    mNext)
  (mFor (mEnum (mCons (mVar 2) mNil)) (gN2 5 6)
    (mIfS (mTest bNe (mBin gIx (mBin gIx (mVar 0) (mVar 4)) (mVar 5)) (mVar 6))
    (mRet (mTup (mCons (mC (.str "forget")) (mCons (mVar 1) (mCons (mVar 3) (mCons (mVar 5) mNil))))))
    mNext)))))
  (mRet (mC .none)))
def m__broken_forget : List D → Out D := mDef S__broken_forget 7 mb__broken_forget
abbrev N__broken_shown : List Str := ["view", "table", "state", "row", "value", "result"]
abbrev S__broken_shown : Sg := ⟨[0, 0, 0, 0, 0, 0], 2, [], []⟩
def mb__broken_shown : Ev → Out Fl := (mSeq (mFor (mEnum (mCons (mVar 1) mNil)) (gN2 2 3)
    (mFor (mEnum (mCons (mVar 3) mNil)) (gN2 4 5)
    (mIfS (mAndB (mTest bIsNot (mVar 5) (mC .none)) (mTest bNe (mBin gIx (mVar 0) (mVar 5)) (mVar 4)))
    (mRet (mTup (mCons (mC (.str "shown")) (mCons (mVar 2) (mCons (mVar 4) mNil)))))
    mNext)))
  (mRet (mC .none)))
def m__broken_shown : List D → Out D := mDef S__broken_shown 6 mb__broken_shown
abbrev N__broken_stay : List Str := ["view", "table", "state", "value"]
abbrev S__broken_stay : Sg := ⟨[0, 0, 0, 0], 2, [], []⟩
def mb__broken_stay : Ev → Out Fl := (mSeq (mFor (mEnum (mCons (mVar 0) mNil)) (gN2 2 3)
    (mIfS (mTest bNe (mBin gIx (mBin gIx (mVar 1) (mVar 2)) (mVar 3)) (mVar 2))
    (mRet (mTup (mCons (mC (.str "stay")) (mCons (mVar 2) mNil))))
    mNext))
  (mRet (mC .none)))
def m__broken_stay : List D → Out D := mDef S__broken_stay 4 mb__broken_stay
abbrev N_broken : List Str := ["view", "table"]
abbrev S_broken : Sg := ⟨[0, 0], 2, [], []⟩
def mb_broken : Ev → Out Fl := (mSeq (mDrop (mCallD m_need_table [none, none] (mCons (mVar 0) (mCons (mVar 1) mNil))))
  (mRet (mOrV (mCallD m__broken_stay [none, none] (mCons (mVar 0) (mCons (mVar 1) mNil))) (mOrV (mCallD m__broken_shown [none, none] (mCons (mVar 0) (mCons (mVar 1) mNil))) (mCallD m__broken_forget [none] (mCons (mVar 1) mNil))))))
def m_broken : List D → Out D := mDef S_broken 2 mb_broken
abbrev N_need_sound : List Str := ["view", "table"]
abbrev S_need_sound : Sg := ⟨[0, 0], 2, [], []⟩
def mb_need_sound : Ev → Out Fl := (mIfS (mTest bIsNot (mCallD m_broken [none, none] (mCons (mVar 0) (mCons (mVar 1) mNil))) (mC .none))
    (fun ρ => .err "NotSound" ρ)
    mNext)
def m_need_sound : List D → Out D := mDef S_need_sound 2 mb_need_sound
abbrev N__is_part : List Str := ["view", "thing", "state"]
abbrev S__is_part : Sg := ⟨[0, 0, 0], 2, [], []⟩
def mb__is_part : Ev → Out Fl := (mSeq (mIfS (mOrB (mNotB (mTru (mIsD "tuple" (mVar 1)))) (mTest bEq (mCall gLen (mCons (mVar 1) mNil)) (mC (.int 0))))
    (mRet (mC (.bool false)))
    mNext)
  (mSeq (mIfS (mNotB (mTru (mCall gAll (mCons (mLst (mLc (mSeqD (mVar 1)) (gN 2) mYes (mCallD m_is_below [none, none] (mCons (mVar 2) (mCons (mCall gLen (mCons (mVar 0) mNil)) mNil))) [2])) mNil))))
    (mRet (mC (.bool false)))
    mNext)
  (mRet (mAndV (mBin (gB bEq) (mLst (mCallL gListOf (mCons (mVar 1) mNil))) (mLst (mCallL gSorted (mCons (mVar 1) mNil)))) (mBin (gB bEq) (mLenSet (mSeqD (mVar 1)) (gN 2) mYes (mBin gIx (mVar 0) (mVar 2)) [2]) (mCall gLen (mCons (mVar 1) mNil)))))))
def m__is_part : List D → Out D := mDef S__is_part 3 mb__is_part
abbrev N_is_parts : List Str := ["view", "thing", "states", "part", "state"]
abbrev S_is_parts : Sg := ⟨[0, 0, 0, 0, 0], 2, [], []⟩
def mb_is_parts : Ev → Out Fl := (mSeq (mDrop (mCallD m_need_view [none] (mCons (mVar 0) mNil)))
  (mSeq (mIfS (mOrB (mNotB (mTru (mIsD "tuple" (mVar 1)))) (mNotB (mTru (mCall gAll (mCons (mLst (mLc (mSeqD (mVar 1)) (gN 3) mYes (mCallD m__is_part [none, none] (mCons (mVar 0) (mCons (mVar 3) mNil))) [3])) mNil)))))
    (mRet (mC (.bool false)))
    mNext)
  (mSeq (mSet 2 (mLst (mLc2 (mSeqD (mVar 1)) (gN 3) mYes (mSeqD (mVar 3)) (gN 4) mYes (mVar 4) [3, 4] [4])))
  (mRet (mAndV (mBin (gB bEq) (mLst (mCallL gListOf (mCons (mVar 1) mNil))) (mLst (mCallL gSorted (mCons (mVar 1) mNil)))) (mBin (gB bEq) (mLst (mCallL gSorted (mCons (mVar 2) mNil))) (mLst (mListRg (mCall gLen (mCons (mVar 0) mNil))))))))))
def m_is_parts : List D → Out D := mDef S_is_parts 5 mb_is_parts
abbrev N__results : List Str := ["row", "entry"]
abbrev S__results : Sg := ⟨[0, 0], 1, [], []⟩
def mb__results : Ev → Out Fl := (mRet (mCall gTupleOf (mCons (mLst (mCallL gSorted (mCons (mLst (mLc (mSeqD (mVar 0)) (gN 1) (mTest bIsNot (mVar 1) (mC .none)) (mVar 1) [1])) mNil))) mNil)))
def m__results : List D → Out D := mDef S__results 2 mb__results
abbrev N_parts_of : List Str := ["view", "table", "row"]
abbrev S_parts_of : Sg := ⟨[0, 0, 0], 2, [], []⟩
def mb_parts_of : Ev → Out Fl := (mSeq (mDrop (mCallD m_need_sound [none, none] (mCons (mVar 0) (mCons (mVar 1) mNil))))
  (mRet (mCall gTupleOf (mCons (mLst (mSortSet (mSeqD (mVar 1)) (gN 2) mYes (mCallD m__results [none] (mCons (mVar 2) mNil)) [2])) mNil))))
def m_parts_of : List D → Out D := mDef S_parts_of 3 mb_parts_of
abbrev N__row_of : List Str := ["view", "part", "state_showing", "state", "value"]
abbrev S__row_of : Sg := ⟨[0, 0, 0, 0, 0], 2, [], []⟩
def mb__row_of : Ev → Out Fl := (mSeq (mSet 2 (mDc1 (mSeqD (mVar 1)) (gN 3) mYes (mBin gIx (mVar 0) (mVar 3)) (mVar 3) [3]))
  (mRet (mCall gTupleOf (mCons (mLst (mLc (mRange1 (mCons (mCallD m_count_values [none] (mCons (mVar 0) mNil)) mNil)) (gN 4) mYes (mDGet1 (mVar 2) (mVar 4)) [4])) mNil))))
def m__row_of : List D → Out D := mDef S__row_of 5 mb__row_of
abbrev N_table_of : List Str := ["view", "parts", "part_at", "part", "state"]
abbrev S_table_of : Sg := ⟨[0, 0, 0, 0, 0], 2, [], []⟩
def mb_table_of : Ev → Out Fl := (mSeq (mIfS (mNotB (mTru (mCallD m_is_parts [none, none] (mCons (mVar 0) (mCons (mVar 1) mNil)))))
    (fun ρ => .err "NoParts" ρ)
    mNext)
  (mSeq (mSet 2 (mDc2 (mSeqD (mVar 1)) (gN 3) mYes (mSeqD (mVar 3)) (gN 4) mYes (mVar 4) (mVar 3) [3, 4] [4]))
  (mRet (mCall gTupleOf (mCons (mLst (mLc (mRange1 (mCons (mCall gLen (mCons (mVar 0) mNil)) mNil)) (gN 4) mYes (mCallD m__row_of [none, none] (mCons (mVar 0) (mCons (mBin gDGet (mVar 2) (mVar 4)) mNil))) [4])) mNil)))))
def m_table_of : List D → Out D := mDef S_table_of 5 mb_table_of
abbrev N__law_view : List Str := ["_law_pen_here", "_law_low", "_law_high", "_law_raw", "_law_names", "_law_value", "_law_turn"]
abbrev S__law_view : Sg := ⟨[1, 0, 0, 0, 1, 0, 0], 3, [], []⟩
def mb__law_view : Ev → Out Fl := (mSeq (mSet 3 (mLst (mLc (mRange1 (mCons (mBin gAdd (mVar 1) (mCallD m__law_draw [some 0, none] (mLend 0 (mCons (mBin gAdd (mBin gSub (mVar 2) (mVar 1)) (mC (.int 1))) mNil)))) mNil)) (gN 6) mYes (mCallD m__law_draw [some 0, none] (mLend 0 (mCons (mC (.int 4)) mNil))) [6])))
  (mSeq (mSetL 4 mNil)
  (mSeq (mFor (mSeqD (mVar 3)) (gN 5)
    (mIfS (mTestOwn bNotIn (mVar 5) 4)
    (mDrop (mUpd 4 fApp (mCons (mVar 5) mNil)))
    mNext))
  (mSeq (mIfS (mTest bEq (mCallD m__law_draw [some 0, none] (mLend 0 (mCons (mC (.int 2)) mNil))) (mC (.int 0)))
    (mSetL 4 (mCallOL gRev 4))
    mNext)
  (mRet (mCall gTupleOf (mCons (mLst (mLc (mSeqD (mVar 3)) (gN 5) mYes (mIndexO 4 (mCons (mVar 5) mNil)) [5])) mNil)))))))
def m__law_view : List D → Out D := mDef S__law_view 7 mb__law_view
abbrev N__law_parts_v2 : List Str := ["_law_pen_here", "_law_view_here", "_law_parts_here", "_law_state", "_law_free", "_law_pick", "_law_place", "_law_other"]
abbrev S__law_parts_v2 : Sg := ⟨[1, 0, 1, 0, 0, 0, 0, 0], 2, [], []⟩
def mb__law_parts_v2 : Ev → Out Fl := (mSeq (mSetL 2 mNil)
  (mSeq (mFor (mRange1 (mCons (mCall gLen (mCons (mVar 1) mNil)) mNil)) (gN 3)
    (mSeq (mSet 4 (mLst (mLc (mRange1 (mCons (mCallO gLen 2) mNil)) (gN 6) (mTest bNotIn (mBin gIx (mVar 1) (mVar 3)) (mLst (mLc (mSeqD (mOwnBin gIx 2 (mVar 6))) (gN 7) mYes (mBin gIx (mVar 1) (mVar 7)) [7]))) (mVar 6) [6])))
  (mSeq (mSet 5 (mCallD m__law_draw [some 0, none] (mLend 0 (mCons (mBin gAdd (mCall gLen (mCons (mVar 4) mNil)) (mC (.int 2))) mNil))))
  (mIfS (mTest bLt (mVar 5) (mCall gLen (mCons (mVar 4) mNil)))
    (mStore 2 (mBin gAdd (mOwnBin gIx 2 (mBin gIx (mVar 4) (mVar 5))) (mTup (mCons (mVar 3) mNil))) (mBin gIx (mVar 4) (mVar 5)))
    (mDrop (mUpd 2 fApp (mCons (mTup (mCons (mVar 3) mNil)) mNil)))))))
  (mRet (mCall gTupleOf (mCons (mLst (mCallOL gSorted 2)) mNil)))))
def m__law_parts_v2 : List D → Out D := mDef S__law_parts_v2 8 mb__law_parts_v2
abbrev N__law_table_v4 : List Str := ["_law_view_here", "_law_parts_here", "_law_rows", "_law_part", "_law_state", "_law_other", "_law_row"]
abbrev S__law_table_v4 : Sg := ⟨[0, 0, 2, 0, 0, 0, 0], 2, [], []⟩
def mb__law_table_v4 : Ev → Out Fl := (mSeq (mSetLL S__law_table_v4 2 (mLc (mSeqD (mVar 0)) (gN 4) mYes (mLst (mBinL lMul (mLst (mCons (mC .none) mNil)) (mBin gAdd (mCall gMax (mCons (mVar 0) mNil)) (mC (.int 1))))) [4]))
  (mSeq (mFor (mSeqD (mVar 1)) (gN 3)
    (mFor (mSeqD (mVar 3)) (gN 4)
    (mFor (mSeqD (mVar 3)) (gN 5)
    (mStore2 2 (mVar 5) (fun ρ => rd ρ 4) (fun ρ => ((fun ρ => rd ρ 0) ρ).bind fun d => ((fun ρ => rd ρ 5) ρ).bind fun e => gIx d e)))))
  (mRet (mCall gTupleOf (mCons (mLst (mLc (mSeqD (mMoveD S__law_table_v4 2)) (gN 6) mYes (mCall gTupleOf (mCons (mVar 6) mNil)) [6])) mNil)))))
def m__law_table_v4 : List D → Out D := mDef S__law_table_v4 7 mb__law_table_v4
abbrev N_need_state : List Str := ["view", "thing"]
abbrev S_need_state : Sg := ⟨[0, 0], 2, [], []⟩
def mb_need_state : Ev → Out Fl := (mIfS (mNotB (mTru (mCallD m_is_below [none, none] (mCons (mVar 1) (mCons (mCall gLen (mCons (mVar 0) mNil)) mNil)))))
    (fun ρ => .err "NoState" ρ)
    mNext)
def m_need_state : List D → Out D := mDef S_need_state 2 mb_need_state
abbrev N_need_value : List Str := ["view", "thing"]
abbrev S_need_value : Sg := ⟨[0, 0], 2, [], []⟩
def mb_need_value : Ev → Out Fl := (mIfS (mNotB (mTru (mCallD m_is_below [none, none] (mCons (mVar 1) (mCons (mCallD m_count_values [none] (mCons (mVar 0) mNil)) mNil)))))
    (fun ρ => .err "NoValue" ρ)
    mNext)
def m_need_value : List D → Out D := mDef S_need_value 2 mb_need_value
abbrev N_written : List Str := ["table", "state", "value", "result"]
abbrev S_written : Sg := ⟨[0, 0, 0, 0], 3, [], []⟩
def mb_written : Ev → Out Fl := (mSeq (mSet 3 (mBin gIx (mBin gIx (mVar 0) (mVar 1)) (mVar 2)))
  (mSeq (mIfS (mTest bIs (mVar 3) (mC .none))
    (fun ρ => .err "Refused" ρ)
    mNext)
  (mRet (mVar 3))))
def m_written : List D → Out D := mDef S_written 4 mb_written
abbrev N_View_put : List Str := ["self", "state", "value"]
abbrev S_View_put : Sg := ⟨[0, 0, 0], 3, [], []⟩
def mb_View_put : Ev → Out Fl := (mSeq (mDrop (mCallD m_need_state [none, none] (mCons (mUn (gFld "_shown") (mVar 0)) (mCons (mVar 1) mNil))))
  (mSeq (mDrop (mCallD m_need_value [none, none] (mCons (mUn (gFld "_shown") (mVar 0)) (mCons (mVar 2) mNil))))
  (mRet (mCallD m_written [none, none, none] (mCons (mUn (gFld "_table") (mVar 0)) (mCons (mVar 1) (mCons (mVar 2) mNil)))))))
def m_View_put : List D → Out D := mDef S_View_put 3 mb_View_put
abbrev N__law_put_v3 : List Str := ["_law_thing", "_law_state", "_law_value"]
abbrev S__law_put_v3 : Sg := ⟨[0, 0, 0], 3, [], []⟩
def mb__law_put_v3 : Ev → Out Fl := (mTry (mRet (mMethV (fun cn => cn != "LoggedView") m_View_put (mVar 0) (mCons (mVar 1) (mCons (mVar 2) mNil)))) [("NoParts", false), ("NoState", false), ("NoTable", false), ("NoValue", false), ("NoView", false), ("NotSound", false), ("Refused", true)] (mRet (mC (.str "refused"))))
def m__law_put_v3 : List D → Out D := mDef S__law_put_v3 3 mb__law_put_v3
abbrev N_View_may : List Str := ["self", "state", "value", "result"]
abbrev S_View_may : Sg := ⟨[0, 0, 0, 0], 2, [], []⟩
def mb_View_may : Ev → Out Fl := (mSeq (mDrop (mCallD m_need_state [none, none] (mCons (mUn (gFld "_shown") (mVar 0)) (mCons (mVar 1) mNil))))
  (mRet (mCall gTupleOf (mCons (mLst (mLc (mEnum (mCons (mBin gIx (mUn (gFld "_table") (mVar 0)) (mVar 1)) mNil)) (gN2 2 3) (mTest bIsNot (mVar 3) (mC .none)) (mVar 2) [2, 3])) mNil))))
def m_View_may : List D → Out D := mDef S_View_may 4 mb_View_may
abbrev N_View_parts : List Str := ["self"]
abbrev S_View_parts : Sg := ⟨[0], 1, [], []⟩
def mb_View_parts : Ev → Out Fl := (mRet (mCallD m_parts_of [none, none] (mCons (mUn (gFld "_shown") (mVar 0)) (mCons (mUn (gFld "_table") (mVar 0)) mNil))))
def m_View_parts : List D → Out D := mDef S_View_parts 1 mb_View_parts
abbrev N_View_reachable : List Str := ["self", "state", "other", "result"]
abbrev S_View_reachable : Sg := ⟨[0, 0, 0, 0], 2, [], []⟩
def mb_View_reachable : Ev → Out (List D) := (mGSeq (mDrop (mCallD m_need_state [none, none] (mCons (mUn (gFld "_shown") (mVar 0)) (mCons (mVar 1) mNil))))
  (mGYF S_View_reachable (mVar 1) (mSeqD (mLst (mCallL gSorted (mCons (mLst (mLc (mSeqD (mBin gIx (mUn (gFld "_table") (mVar 0)) (mVar 1))) (gN 3) (mTest bIsNot (mVar 3) (mC .none)) (mVar 3) [3])) mNil)))) (gN 2) (mTest bNe (mVar 2) (mVar 1)) (mVar 2)))
def m_View_reachable : List D → Out (List D) := mDefG 4 mb_View_reachable
abbrev N_View_shown : List Str := ["self"]
abbrev S_View_shown : Sg := ⟨[0], 1, [], []⟩
def mb_View_shown : Ev → Out Fl := (mRet (mUn (gFld "_shown") (mVar 0)))
def m_View_shown : List D → Out D := mDef S_View_shown 1 mb_View_shown
abbrev N_View_table : List Str := ["self"]
abbrev S_View_table : Sg := ⟨[0], 1, [], []⟩
def mb_View_table : Ev → Out Fl := (mRet (mUn (gFld "_table") (mVar 0)))
def m_View_table : List D → Out D := mDef S_View_table 1 mb_View_table
abbrev N_View_value_at : List Str := ["self", "state"]
abbrev S_View_value_at : Sg := ⟨[0, 0], 2, [], []⟩
def mb_View_value_at : Ev → Out Fl := (mSeq (mDrop (mCallD m_need_state [none, none] (mCons (mUn (gFld "_shown") (mVar 0)) (mCons (mVar 1) mNil))))
  (mRet (mBin gIx (mUn (gFld "_shown") (mVar 0)) (mVar 1))))
def m_View_value_at : List D → Out D := mDef S_View_value_at 2 mb_View_value_at
abbrev N__law_answers_v2 : List Str := ["_law_thing", "_law_view_here", "_law_parts_here", "_law_part", "_law_table_here", "_law_many", "_law_state", "_law_row", "_law_due", "_law_may", "_law_value", "_law_entry", "_law_other"]
abbrev S__law_answers_v2 : Sg := ⟨[0, 0, 0, 0, 0, 0, 0, 0, 0, 0, 0, 0, 0], 3, [], []⟩
def mb__law_answers_v2 : Ev → Out Fl := (mSeq (mPar 4 5 (mCons (mCallD m__law_table_v4 [none, none] (mCons (mVar 1) (mCons (mVar 2) mNil))) (mCons (mBin gAdd (mCall gMax (mCons (mVar 1) mNil)) (mC (.int 1))) mNil)))
  (mSeq (mIfS (mTest bNe (mTup (mCons (mPropV m_View_shown (mVar 0)) (mCons (mPropV m_View_table (mVar 0)) (mCons (mPropV m_View_parts (mVar 0)) mNil)))) (mTup (mCons (mVar 1) (mCons (mVar 4) (mCons (mVar 2) mNil)))))
    (mRet (mC (.bool false)))
    mNext)
  (mSeq (mFor (mSeqD (mVar 2)) (gN 3)
    (mFor (mSeqD (mVar 3)) (gN 6)
    (mSeq (mSet 7 (mLst (mLc (mRange1 (mCons (mVar 5) mNil)) (gN 10) mYes (mCallD m__law_put_v3 [none, none, none] (mCons (mVar 0) (mCons (mVar 6) (mCons (mVar 10) mNil)))) [10])))
  (mSeq (mSet 8 (mLst (mLc (mSeqD (mBin gIx (mVar 4) (mVar 6))) (gN 11) mYes (mIf (mTest bIs (mVar 11) (mC .none)) (mC (.str "refused")) (mVar 11)) [11])))
  (mSeq (mSet 9 (mCall gTupleOf (mCons (mLst (mLc (mRange1 (mCons (mVar 5) mNil)) (gN 10) (mTest bNe (mBin gIx (mVar 8) (mVar 10)) (mC (.str "refused"))) (mVar 10) [10])) mNil)))
  (mSeq (mIfS (mOrB (mTest bNe (mVar 7) (mVar 8)) (mOrB (mTest bNe (mMethV (fun _ => true) m_View_may (mVar 0) (mCons (mVar 6) mNil)) (mVar 9)) (mTest bNe (mMethV (fun _ => true) m_View_value_at (mVar 0) (mCons (mVar 6) mNil)) (mBin gIx (mVar 1) (mVar 6)))))
    (mRet (mC (.bool false)))
    mNext)
  (mIfS (mTest bNe (mLst (mCallGV m_View_reachable (mVar 0) (mCons (mVar 6) mNil))) (mBin gAdd (mLst (mCons (mVar 6) mNil)) (mLst (mLc (mSeqD (mVar 3)) (gN 12) (mTest bNe (mVar 12) (mVar 6)) (mVar 12) [12]))))
    (mRet (mC (.bool false)))
    mNext)))))))
  (mRet (mBin (gB bEq) (mTup (mCons (mPropV m_View_shown (mVar 0)) (mCons (mPropV m_View_table (mVar 0)) mNil))) (mTup (mCons (mVar 1) (mCons (mVar 4) mNil))))))))
def m__law_answers_v2 : List D → Out D := mDef S__law_answers_v2 13 mb__law_answers_v2
abbrev N_View___init__ : List Str := ["self", "shown", "state"]
abbrev S_View___init__ : Sg := ⟨[7, 0, 0], 2, [], []⟩
def mb_View___init__ : Ev → Out Fl := (mSeq (mDrop (mCallD m_need_view [none] (mCons (mVar 1) mNil)))
  (mSeq (mSetFld 0 "_shown" (mVar 1))
  (mSetFld 0 "_table" (mCallD m_table_of [none, none] (mCons (mVar 1) (mCons (mCall gTupleOf (mCons (mLst (mLc (mRange1 (mCons (mCall gLen (mCons (mVar 1) mNil)) mNil)) (gN 2) mYes (mTup (mCons (mVar 2) mNil)) [2])) mNil)) mNil))))))
def m_View___init__ : List D → Out D := mDef S_View___init__ 3 mb_View___init__
abbrev N_TableView___init__ : List Str := ["self", "shown", "table"]
abbrev S_TableView___init__ : Sg := ⟨[7, 0, 0], 3, [], []⟩
def mb_TableView___init__ : Ev → Out Fl := (mSeq (mDrop (mCallD m_need_sound [none, none] (mCons (mVar 1) (mCons (mVar 2) mNil))))
  (mSeq (mSup "TableView" m_View___init__ (mCons (mVar 1) mNil))
  (mSetFld 0 "_table" (mVar 2))))
def m_TableView___init__ : List D → Out D := mDef S_TableView___init__ 3 mb_TableView___init__
abbrev N_law_k44_v2 : List Str := ["_law_script", "_law_cell", "_law_pen_here", "_law_view_here", "_law_parts_here", "_law_state"]
abbrev S_law_k44_v2 : Sg := ⟨[0, 0, 1, 0, 0, 0], 1, [], []⟩
def mb_law_k44_v2 : Ev → Out Fl := (mSeq (mIfS (mTest bNe (mC (.int 9)) (mC (.int 9)))
    (mRet (mC (.bool false)))
    mNext)
  (mSeq (mFor (mSeqD (mBin gAdd (mLst (mCons (mCallD m__law_cell_at [none, none] (mCons (mVar 0) (mCons (mC (.int 0)) mNil))) mNil)) (mSl (mVar 0) (mPart (mC (.int 1))) (mPart (mC (.int 3)))))) (gN 1)
    (mSeq (mSetL 2 (mCallDL m__law_pen [none] (mCons (mVar 1) mNil)))
  (mSeq (mSet 3 (mCallD m__law_view [some 2, none, none] (mLend 2 (mCons (mC (.int 1)) (mCons (mC (.int 9)) mNil)))))
  (mSeq (mSet 4 (mCallD m__law_parts_v2 [some 2, none] (mLend 2 (mCons (mVar 3) mNil))))
  (mSeq (mIfS (mNotB (mTru (mCallD m__law_answers_v2 [none, none, none] (mCons (mMake "View" m_View___init__ (mCons (mVar 3) mNil)) (mCons (mVar 3) (mCons (mCall gTupleOf (mCons (mLst (mLc (mRange1 (mCons (mCall gLen (mCons (mVar 3) mNil)) mNil)) (gN 5) mYes (mTup (mCons (mVar 5) mNil)) [5])) mNil)) mNil))))))
    (mRet (mC (.bool false)))
    mNext)
  (mIfS (mNotB (mTru (mCallD m__law_answers_v2 [none, none, none] (mCons (mMake "TableView" m_TableView___init__ (mCons (mVar 3) (mCons (mCallD m__law_table_v4 [none, none] (mCons (mVar 3) (mCons (mVar 4) mNil))) mNil))) (mCons (mVar 3) (mCons (mVar 4) mNil))))))
    (mRet (mC (.bool false)))
    mNext))))))
  (mRet (mC (.bool true)))))
def m_law_k44_v2 : List D → Out D := mDef S_law_k44_v2 6 mb_law_k44_v2
end Pf
namespace Pf
open PySem MW
theorem draw_ok {N q : Int} {d : D} (h : Pen N d) (hN : N ≤ 1000000) (hq : 1 ≤ q) (hq2 : q < 1000000) : Ok (m__law_draw [d, .int q]) (fun z os => ∃ (i : Int) (p : D), z = .int i ∧ 0 ≤ i ∧ i < q ∧ os = [some p, none] ∧ Pen (N + 1) p) := by
  obtain ⟨a, b, n, rfl, ha, hb, hb2, hn, hn2⟩ := h
  refine ok_def (by rfl) ?_
  unfold mb__law_draw
  walk_at "mx"
  refine ite_dec (fun c => ?_) (fun c => ?_)
  · walk_at "mx"
    exact defK_rt rfl ⟨_, _, rfl, Int.emod_nonneg _ (by omega), Int.emod_lt_of_pos _ (by omega), rfl, _, _, _, rfl, Int.ediv_nonneg ha (by omega), hb, hb2, hn, by omega⟩
  · walk_at "mx"
    exact defK_rt rfl ⟨_, _, rfl, Int.emod_nonneg _ (by omega), Int.emod_lt_of_pos _ (by omega), rfl, _, _, _, rfl, ha, hb, hb2, by omega, by omega⟩
theorem cell_ok (ns : List Int) (k : Nat) : Ok (m__law_cell_at [.list (ns.map .int), .int k]) (fun z os => ∃ i : Int, z = .int i ∧ os = [none, none]) := by
  refine ok_def (by rfl) ?_
  unfold mb__law_cell_at
  walk_at "mx"
  refine ite_dec (fun c => ?_) (fun c => ?_)
  · walk_at "mx"
    have h : k < ns.length := by rw [List.length_map] at c; omega
    refine ⟨.int ns[k], gIx_ok (by rw [List.getElem?_map, List.getElem?_eq_getElem h]; rfl), ?_⟩
    walk_at "mx"
    exact defK_rt rfl ⟨_, rfl, rfl⟩
  · walk_at "mx"
    exact defK_rt rfl ⟨_, rfl, rfl⟩
theorem pen_ok (c : Int) : Ok (m__law_pen [.int c]) (fun ds os => Pen 0 (.list ds) ∧ os = [none]) := by
  refine ok_defL (by rfl) ?_
  unfold mb__law_pen
  walk_at "mx"
  refine ⟨.int 1000000000000000000, rfl, ?_⟩
  walk_at "mx"
  refine ⟨.int (if c - 1000000000000000000 > 0 then c - 1000000000000000000 else 0), rfl, ?_⟩
  walk_at "mx"
  refine ⟨⟨_, _, _, rfl, ?_, Int.emod_nonneg _ (by omega), Int.emod_lt_of_pos _ (by omega), by omega, by omega⟩, rfl⟩
  split <;> omega
end Pf
namespace Pf
open PySem MW
abbrev Tb := List (List (Option Nat))
/-- parts of the first n states: each state in one of them, each part not empty, ascending, no value twice -/
structure Pn (v : List Nat) (n : Nat) (ps : List (List Nat)) : Prop where
  all : ps.flatten.Perm (List.range n)
  ne : ∀ q ∈ ps, q ≠ []
  asc : ∀ q ∈ ps, q.Pairwise (· < ·)
  dif : ∀ q ∈ ps, ∀ s ∈ q, ∀ t ∈ q, v.getD s 0 = v.getD t 0 → s = t
section
variable {v : List Nat} {n : Nat} {ps : List (List Nat)}
theorem Pn.lt (h : Pn v n ps) {q : List Nat} (hq : q ∈ ps) {s : Nat} (hs : s ∈ q) : s < n :=
  List.mem_range.mp (h.all.mem_iff.mp (List.mem_flatten.mpr ⟨q, hq, hs⟩))
theorem Pn.has (h : Pn v n ps) {s : Nat} (hs : s < n) : ∃ q ∈ ps, s ∈ q := by
  obtain ⟨q, h1, h2⟩ := List.mem_flatten.mp (h.all.mem_iff.mpr (List.mem_range.mpr hs))
  exact ⟨q, h1, h2⟩
theorem nodup_uni : ∀ {ps : List (List Nat)} {p q : List Nat} {s : Nat}, ps.flatten.Nodup → p ∈ ps → q ∈ ps → s ∈ p → s ∈ q → p = q
  | [], _, _, _, _, h, _, _, _ => by cases h
  | r :: ps, p, q, s, hn, hp, hq, s1, s2 => by
    rw [List.flatten_cons, List.nodup_append] at hn
    obtain ⟨_, h2, h3⟩ := hn
    rcases List.mem_cons.mp hp with e1 | e1 <;> rcases List.mem_cons.mp hq with e2 | e2
    · rw [e1, e2]
    · rw [e1] at s1
      exact absurd rfl (h3 s s1 s (List.mem_flatten.mpr ⟨q, e2, s2⟩))
    · rw [e2] at s2
      exact absurd rfl (h3 s s2 s (List.mem_flatten.mpr ⟨p, e1, s1⟩))
    · exact nodup_uni h2 e1 e2 s1 s2
theorem Pn.uni (h : Pn v n ps) {p q : List Nat} {s : Nat} (hp : p ∈ ps) (hq : q ∈ ps) (s1 : s ∈ p) (s2 : s ∈ q) : p = q :=
  nodup_uni (h.all.nodup_iff.mpr List.nodup_range) hp hq s1 s2
theorem Pn.perm (h : Pn v n ps) {qs : List (List Nat)} (e : qs.Perm ps) : Pn v n qs :=
  ⟨e.flatten.trans h.all, fun q hq => h.ne q (e.mem_iff.mp hq), fun q hq => h.asc q (e.mem_iff.mp hq), fun q hq => h.dif q (e.mem_iff.mp hq)⟩
theorem Pn.count (h : Pn v n ps) : ps.length ≤ n := by
  have : ∀ ps : List (List Nat), (∀ q ∈ ps, q ≠ []) → ps.length ≤ ps.flatten.length := by
    intro ps
    induction ps with
    | nil => intro _; exact Nat.le_refl _
    | cons q ps ih =>
      intro k
      have h1 := List.length_pos_iff.mpr (k q List.mem_cons_self)
      have h2 := ih fun r hr => k r (List.mem_cons_of_mem _ hr)
      rw [List.flatten_cons, List.length_append, List.length_cons]
      omega
  have h1 := this ps h.ne
  rw [h.all.length_eq, List.length_range] at h1
  exact h1
theorem Pn.len (h : Pn v n ps) {q : List Nat} (hq : q ∈ ps) : q.length ≤ n := by
  have : ∀ ps : List (List Nat), q ∈ ps → q.length ≤ ps.flatten.length := by
    intro ps
    induction ps with
    | nil => intro h; cases h
    | cons r ps ih =>
      intro k
      rw [List.flatten_cons, List.length_append]
      rcases List.mem_cons.mp k with z | z
      · rw [z]; omega
      · have := ih z; omega
  have h1 := this ps hq
  rw [h.all.length_eq, List.length_range] at h1
  exact h1
theorem pn_nil (v : List Nat) : Pn v 0 [] := ⟨List.Perm.refl _, nofun, nofun, nofun⟩
theorem Pn.snoc (h : Pn v n ps) : Pn v (n + 1) (ps ++ [[n]]) := by
  refine ⟨?_, fun q hq => ?_, fun q hq => ?_, fun q hq s hs t ht e => ?_⟩
  · rw [List.flatten_append, List.range_succ]
    exact h.all.append (List.Perm.refl _)
  · rcases List.mem_append.mp hq with z | z
    · exact h.ne q z
    · rw [List.mem_singleton.mp z]; simp
  · rcases List.mem_append.mp hq with z | z
    · exact h.asc q z
    · rw [List.mem_singleton.mp z]; exact List.pairwise_singleton _ _
  · rcases List.mem_append.mp hq with z | z
    · exact h.dif q z s hs t ht e
    · rw [List.mem_singleton.mp z] at hs ht
      rw [List.mem_singleton.mp hs, List.mem_singleton.mp ht]
theorem set_flatten {x : Nat} : ∀ {ps : List (List Nat)} {k : Nat} (hk : k < ps.length), (ps.set k (ps[k] ++ [x])).flatten.Perm (ps.flatten ++ [x])
  | [], _, h => by cases h
  | q :: ps, 0, _ => by
    rw [List.set_cons_zero, List.flatten_cons, List.flatten_cons, List.getElem_cons_zero, List.append_assoc, List.append_assoc]
    exact List.Perm.append_left q List.perm_append_comm
  | q :: ps, k + 1, h => by
    rw [List.set_cons_succ, List.flatten_cons, List.flatten_cons, List.append_assoc]
    exact List.Perm.append_left q (set_flatten (Nat.lt_of_succ_lt_succ h))
theorem Pn.join (h : Pn v n ps) {k : Nat} (hk : k < ps.length) (hv : v.getD n 0 ∉ ps[k].map fun s => v.getD s 0) : Pn v (n + 1) (ps.set k (ps[k] ++ [n])) := by
  have hm := List.getElem_mem hk
  refine ⟨?_, fun q hq => ?_, fun q hq => ?_, fun q hq s hs t ht e => ?_⟩
  · rw [List.range_succ]
    exact (set_flatten hk).trans (h.all.append (List.Perm.refl _))
  · rcases List.mem_or_eq_of_mem_set hq with z | z
    · exact h.ne q z
    · rw [z]; simp
  · rcases List.mem_or_eq_of_mem_set hq with z | z
    · exact h.asc q z
    · rw [z, List.pairwise_append]
      refine ⟨h.asc _ hm, List.pairwise_singleton _ _, fun a ha b hb => ?_⟩
      rw [List.mem_singleton.mp hb]
      exact h.lt hm ha
  · rcases List.mem_or_eq_of_mem_set hq with z | z
    · exact h.dif q z s hs t ht e
    · rw [z] at hs ht
      rcases List.mem_append.mp hs with s1 | s1 <;> rcases List.mem_append.mp ht with t1 | t1
      · exact h.dif _ hm s s1 t t1 e
      · rw [List.mem_singleton.mp t1] at e
        exact absurd (List.mem_map.mpr ⟨s, s1, e⟩) hv
      · rw [List.mem_singleton.mp s1] at e
        exact absurd (List.mem_map.mpr ⟨t, t1, e.symm⟩) hv
      · rw [List.mem_singleton.mp s1, List.mem_singleton.mp t1]
end
/-- the table of a partition -/
structure TabOf (v : List Nat) (c : Nat) (ps : List (List Nat)) (t : Tb) : Prop where
  tab : Tab v.length c t
  is : ∀ s w, s < v.length → w < c → ∀ o, cell t s w = some o ↔ ∃ q ∈ ps, s ∈ q ∧ o ∈ q ∧ v.getD o 0 = w
/-- the three rules -/
structure Sound (v : List Nat) (c : Nat) (t : Tb) : Prop where
  tab : Tab v.length c t
  stay : ∀ s, s < v.length → cell t s (v.getD s 0) = some s
  shown : ∀ s w o, s < v.length → w < c → cell t s w = some o → v.getD o 0 = w
  forget : ∀ s w o, s < v.length → w < c → cell t s w = some o → ∀ x, x < c → cell t o x = cell t s x
theorem Tab.lt {n c : Nat} {t : Tb} (h : Tab n c t) {s w o : Nat} (e : cell t s w = some o) : o < n := by
  by_cases hs : s < t.length
  · by_cases hw : w < t[s].length
    · rw [cell_at hs hw] at e
      exact (h.2 _ (List.getElem_mem hs)).2 _ (List.getElem_mem hw) _ e
    · unfold cell at e
      simp [List.getD_eq_getElem?_getD, hs, hw] at e
  · unfold cell at e
    simp [List.getD_eq_getElem?_getD, hs] at e
theorem vw_getD {v : List Nat} {c : Nat} (hv : Vw v c) {s : Nat} (hs : s < v.length) : v.getD s 0 < c := by
  rw [List.getD_eq_getElem?_getD, List.getElem?_eq_getElem hs]
  exact hv.2.2.2.1 _ (List.getElem_mem hs)
theorem TabOf.sound {v : List Nat} {c : Nat} {ps : List (List Nat)} {t : Tb} (hv : Vw v c) (hp : Pn v v.length ps) (h : TabOf v c ps t) : Sound v c t := by
  refine ⟨h.tab, fun s hs => ?_, fun s w o hs hw e => ?_, fun s w o hs hw e x hx => ?_⟩
  · obtain ⟨q, h1, h2⟩ := hp.has hs
    exact (h.is s _ hs (vw_getD hv hs) s).mpr ⟨q, h1, h2, h2, rfl⟩
  · obtain ⟨_, _, _, _, e⟩ := (h.is s w hs hw o).mp e
    exact e
  · obtain ⟨q, h1, h2, h3, _⟩ := (h.is s w hs hw o).mp e
    have ho := hp.lt h1 h3
    have key : ∀ y, cell t o x = some y ↔ cell t s x = some y := fun y => by
      rw [h.is o x ho hx y, h.is s x hs hx y]
      constructor
      · rintro ⟨q', g1, g2, g3, g4⟩
        have := hp.uni h1 g1 h3 g2
        subst this
        exact ⟨q, h1, h2, g3, g4⟩
      · rintro ⟨q', g1, g2, g3, g4⟩
        have := hp.uni h1 g1 h2 g2
        subst this
        exact ⟨q, h1, h3, g3, g4⟩
    cases e1 : cell t o x with
    | some y => exact ((key y).mp e1).symm
    | none =>
      cases e2 : cell t s x with
      | none => rfl
      | some y => rw [(key y).mpr e2] at e1; cases e1
theorem tab_ext {n c : Nat} {t u : Tb} (ht : Tab n c t) (hu : Tab n c u) (h : ∀ s w, s < n → w < c → cell t s w = cell u s w) : t = u := by
  apply List.ext_getElem (by rw [ht.1, hu.1])
  intro s h1 h2
  have l1 := (ht.2 _ (List.getElem_mem h1)).1
  have l2 := (hu.2 _ (List.getElem_mem h2)).1
  apply List.ext_getElem (by rw [l1, l2])
  intro w h3 h4
  have := h s w (by rw [← ht.1]; exact h1) (by omega)
  rw [cell_at h1 h3, cell_at h2 h4] at this
  exact this
theorem TabOf.uniq {v : List Nat} {c : Nat} {ps : List (List Nat)} {t u : Tb} (h : TabOf v c ps t) (k : TabOf v c ps u) : t = u := by
  refine tab_ext h.tab k.tab fun s w hs hw => ?_
  have key : ∀ y, cell t s w = some y ↔ cell u s w = some y := fun y => (h.is s w hs hw y).trans (k.is s w hs hw y).symm
  cases e1 : cell t s w with
  | some y => exact ((key y).mp e1).symm
  | none =>
    cases e2 : cell u s w with
    | none => rfl
    | some y => rw [(key y).mpr e2] at e1; cases e1
end Pf
namespace Pf
open PySem MW
def leN (a b : List Nat) : Bool := decide (a ≤ b)
theorem int_lt : ∀ a b : List Nat, a.map Int.ofNat < b.map Int.ofNat ↔ a < b
  | [], [] => by simp
  | [], y :: b => by simp
  | x :: a, [] => by simp
  | x :: a, y :: b => by
    rw [List.map_cons, List.map_cons, List.cons_lt_cons_iff, List.cons_lt_cons_iff, int_lt a b]
    have h1 : Int.ofNat x < Int.ofNat y ↔ x < y := Int.ofNat_lt
    have h2 : Int.ofNat x = Int.ofNat y ↔ x = y := Int.ofNat_inj
    rw [h1, h2]
theorem leD_tD (a b : List Nat) : leD (tD a) (tD b) = leN a b := by
  have e : ∀ q : List Nat, q.map nD = (q.map Int.ofNat).map PyData.int := fun q => by rw [List.map_map]; rfl
  show (!PySem.W.dataLt (.tuple (b.map nD)) (.tuple (a.map nD))) = _
  rw [PySem.W.dataLt_tuple]
  show (!PySem.W.rowLt (b.map nD) (a.map nD)) = _
  rw [e, e, PySem.W.dataLt_ints]
  unfold leN
  by_cases h : b < a
  · have h1 := (int_lt b a).mpr h
    have h2 : ¬ a ≤ b := fun r => List.not_lt.mpr r h
    simp [h1, h2]
  · have h1 : ¬ b.map Int.ofNat < a.map Int.ofNat := fun z => h ((int_lt b a).mp z)
    have h2 : a ≤ b := List.not_lt.mp h
    simp [h1, h2]
theorem leN_trans (a b c : List Nat) : leN a b = true → leN b c = true → leN a c = true := by
  unfold leN
  simp only [decide_eq_true_eq]
  exact fun h1 h2 => List.le_trans h1 h2
theorem leN_total (a b : List Nat) : (leN a b || leN b a) = true := by
  unfold leN
  rw [Bool.or_eq_true, decide_eq_true_eq, decide_eq_true_eq]
  exact List.le_total a b
theorem sort_cond (ps : List (List Nat)) : (ps.map tD).all SeqAt.shaped = true ∧ alikeB (ps.map tD) = true ∧ sortableB (ps.map tD) = true := by
  refine ⟨List.all_eq_true.mpr fun d hd => ?_, List.all_eq_true.mpr fun d hd => List.all_eq_true.mpr fun e he => ?_, ?_⟩
  · obtain ⟨q, _, e⟩ := List.mem_map.mp hd
    rw [← e]; exact shaped_tD q
  · obtain ⟨q, _, e1⟩ := List.mem_map.mp hd
    obtain ⟨r, _, e2⟩ := List.mem_map.mp he
    rw [← e1, ← e2]
    simp [tD, PySem.W.alike, alike_nD q r]
  · refine Bool.or_eq_true_iff.mpr (.inl (List.all_eq_true.mpr fun d hd => ?_))
    obtain ⟨q, hq, e⟩ := List.mem_map.mp hd
    rw [← e]
def sortT (ps : List (List Nat)) : List (List Nat) := ps.mergeSort leN
/-- sorted of tuples of numbers, empty ones too -/
theorem sort_tuples0 (ps : List (List Nat)) : gSorted [.list (ps.map tD)] = some ((sortT ps).map tD) := by
  show gSortL (ps.map tD) = _
  unfold gSortL
  rw [if_pos (sort_cond ps)]
  congr 1
  exact (List.map_mergeSort fun a _ b _ => (leD_tD a b).symm).symm
theorem sort_tuples {ps : List (List Nat)} (_ : ∀ q ∈ ps, q ≠ []) : gSorted [.list (ps.map tD)] = some ((sortT ps).map tD) := sort_tuples0 ps
theorem sortT_perm (ps : List (List Nat)) : (sortT ps).Perm ps := List.mergeSort_perm _ _
theorem sortT_sorted (ps : List (List Nat)) : (sortT ps).Pairwise fun a b => leN a b = true := List.pairwise_mergeSort leN_trans leN_total ps
theorem sortT_of {ps : List (List Nat)} (h : ps.Pairwise fun a b => leN a b = true) : sortT ps = ps := List.mergeSort_of_pairwise h
theorem sortT_again (ps : List (List Nat)) : sortT (sortT ps) = sortT ps := sortT_of (sortT_sorted ps)
theorem leN_antisymm {a b : List Nat} (h1 : leN a b = true) (h2 : leN b a = true) : a = b := by
  unfold leN at h1 h2
  exact List.le_antisymm (of_decide_eq_true h1) (of_decide_eq_true h2)
theorem sorted_unique {as bs : List (List Nat)} (p : as.Perm bs) (h1 : as.Pairwise fun a b => leN a b = true) (h2 : bs.Pairwise fun a b => leN a b = true) : as = bs :=
  p.eq_of_pairwise (fun _ _ _ _ x y => leN_antisymm x y) h1 h2
theorem sortT_perm_eq {as bs : List (List Nat)} (p : as.Perm bs) : sortT as = sortT bs := sorted_unique ((sortT_perm as).trans (p.trans (sortT_perm bs).symm)) (sortT_sorted as) (sortT_sorted bs)
def sortN (q : List Nat) : List Nat := q.mergeSort fun a b => decide (a ≤ b)
theorem leD_nD (a b : Nat) : leD (nD a) (nD b) = decide (a ≤ b) := by
  have e := congrFun (congrFun (PySem.W.dataLe_int (fun x : Nat => (x : Int))) a) b
  show PySem.W.dataLe false (fun d : D => d) (nD a) (nD b) = _
  refine Eq.trans (show _ = PySem.W.dataLe false (fun b : Nat => PyData.int (b : Int)) a b from rfl) (e.trans ?_)
  by_cases h : a ≤ b
  · simp [h]
  · simp [h]
theorem sort_cond_nD (q : List Nat) : (q.map nD).all SeqAt.shaped = true ∧ alikeB (q.map nD) = true ∧ sortableB (q.map nD) = true := by
  refine ⟨List.all_eq_true.mpr fun d hd => ?_, List.all_eq_true.mpr fun d hd => List.all_eq_true.mpr fun e he => ?_, ?_⟩
  · obtain ⟨x, _, e⟩ := List.mem_map.mp hd
    rw [← e]; exact shaped_nD x
  · obtain ⟨x, _, e1⟩ := List.mem_map.mp hd
    obtain ⟨y, _, e2⟩ := List.mem_map.mp he
    rw [← e1, ← e2]
    simp [nD, PySem.W.alike]
  · refine Bool.or_eq_true_iff.mpr (.inr (List.all_eq_true.mpr fun d hd => ?_))
    obtain ⟨x, _, e⟩ := List.mem_map.mp hd
    rw [← e]
theorem sort_nums (q : List Nat) : gSorted [.list (q.map nD)] = some ((sortN q).map nD) := by
  show gSortL (q.map nD) = _
  unfold gSortL
  rw [if_pos (sort_cond_nD q)]
  congr 1
  exact (List.map_mergeSort fun a _ b _ => (leD_nD a b).symm).symm
theorem sort_numsT (q : List Nat) : gSorted [.tuple (q.map nD)] = some ((sortN q).map nD) := sort_nums q
theorem sortN_perm (q : List Nat) : (sortN q).Perm q := List.mergeSort_perm _ _
theorem sortN_sorted (q : List Nat) : (sortN q).Pairwise (· ≤ ·) := by
  have h := List.pairwise_mergeSort (le := fun a b : Nat => decide (a ≤ b)) (fun a b c h1 h2 => by simp at *; omega) (fun a b => by simp; omega) q
  exact h.imp fun h => of_decide_eq_true h
theorem sortN_of {q : List Nat} (h : q.Pairwise (· ≤ ·)) : sortN q = q := List.mergeSort_of_pairwise (h.imp fun h => decide_eq_true h)
theorem nums_unique {as bs : List Nat} (p : as.Perm bs) (h1 : as.Pairwise (· ≤ ·)) (h2 : bs.Pairwise (· ≤ ·)) : as = bs := p.eq_of_pairwise (fun _ _ _ _ x y => Nat.le_antisymm x y) h1 h2
theorem sortN_range (n : Nat) {q : List Nat} (p : q.Perm (List.range n)) : sortN q = List.range n :=
  nums_unique ((sortN_perm q).trans p) (sortN_sorted q) (List.pairwise_le_range)
end Pf
namespace Pf
open PySem MW
theorem getD_eq {v : List Nat} {i : Nat} (h : i < v.length) : v.getD i 0 = v[i] := by simp [List.getD_eq_getElem?_getD, h]
theorem parts_ok2 {N : Int} {d : D} {v : List Nat} {c : Nat} (h : Pen N d) (hN : N ≤ 100000) (hv : Vw v c) : Ok (m__law_parts [d, tD v]) (fun z os => ∃ (ps : List (List Nat)) (p : D), z = .tuple (ps.map tD) ∧ Pn v v.length ps ∧ sortT ps = ps ∧ os = [some p, none] ∧ Pen (N + 20) p) := by
  obtain ⟨v1, v2, v3, v4, v5⟩ := hv
  refine ok_def (by rfl) ?_
  unfold mb__law_parts
  walk_at "mx"
  refine ⟨_, rfl, by rw [List.length_map]; omega, ?_⟩
  rw [List.length_map, Int.toNat_natCast, rangeD_nD]
  refine for_list (fun k ρ => ∃ (p : D) (ps : List (List Nat)) (x3 x4 x5 : Option D), ρ = [some p, some (tD v), some (.list (ps.map tD)), x3, x4, x5, none, none] ∧ Pen (N + k) p ∧ Pn v k ps) ⟨d, [], none, none, none, rfl, pen_le h (by omega), pn_nil v⟩ ?_ ?_
  · rintro i hi ρ ⟨p, ps, x3, x4, x5, rfl, hp, hps⟩
    obtain ⟨e, hi⟩ := range_get hi
    rw [e]
    have hl := hps.count
    refine ⟨_, rfl, ?_⟩
    refine ok_at (ρ' := [some p, some (tD v), some (.list (ps.map tD)), some (nD i), x4, x5, none, none]) rfl ?_
    walk_at "mx"
    refine ⟨_, rfl, by rw [List.length_map]; omega, ?_⟩
    rw [List.length_map, Int.toNat_natCast, rangeD_nD]
    let fr : Nat → Bool := fun j => !((ps.getD j []).map fun s => v.getD s 0).contains (v.getD i 0)
    refine ok_at (ρ' := [some p, some (tD v), some (.list (ps.map tD)), some (nD i), x4, x5, none, none]) rfl ?_
    refine (comp_filter fr nD (l := List.range ps.length) ?_).mono ?_
    · intro j hj
      have hj := List.mem_range.mp hj
      refine ⟨_, rfl, ?_⟩
      walk_at "mx"
      refine ⟨_, gIxT_ok (nD_at hi), ?_⟩
      walk_at "mx"
      refine ⟨tD ps[j], gIx_ok (by rw [List.getElem?_map, List.getElem?_eq_getElem hj]; rfl), ?_⟩
      refine ⟨_, rfl, ?_⟩
      refine ok_at (ρ' := [some p, some (tD v), some (.list (ps.map tD)), some (nD i), x4, x5, some (nD j), none]) rfl ?_
      refine (comp_map (fun s => nD (v.getD s 0)) (l := ps[j]) ?_).mono ?_
      · intro s hs
        have hs := hps.lt (List.getElem_mem hj) hs
        refine ⟨_, rfl, ?_⟩
        walk_at "mx"
        exact ⟨_, gIxT_ok (nD_at (show s < v.length by omega)), by rw [getD_eq (show s < v.length by omega)], rfl⟩
      · rintro ys ρ ⟨rfl, rfl⟩
        refine ⟨fr j, ?_, ?_⟩
        · have := bNotIn_nD v[i] (ps[j].map fun s => v.getD s 0)
          rw [List.map_map] at this
          show bNotIn (nD v[i]) _ = some (!((ps.getD j []).map fun s => v.getD s 0).contains (v.getD i 0))
          rw [getD_eq hi, show ps.getD j [] = ps[j] by simp [List.getD_eq_getElem?_getD, hj]]
          exact this
        · refine ⟨rfl, ?_⟩
          cases fr j with
          | true => exact L2.iteT ⟨rfl, rfl⟩
          | false => exact L2.iteF rfl
    · rintro ys ρ ⟨rfl, rfl⟩
      obtain ⟨f, hf⟩ : ∃ f, f = (List.range ps.length).filter fr := ⟨_, rfl⟩
      rw [← hf]
      refine ok_at (ρ' := [some p, some (tD v), some (.list (ps.map tD)), some (nD i), some (.list (f.map nD)), x5, none, none]) rfl ?_
      have fl : f.length ≤ ps.length := by
        rw [hf]
        exact Nat.le_trans (List.length_filter_le _ _) (by rw [List.length_range]; exact Nat.le_refl _)
      walk_at "mx"
      refine (draw_ok hp (by omega) (by rw [List.length_map]; omega) (by rw [List.length_map]; omega)).mono ?_
      rintro z os ⟨k, p, rfl, h4, h5, rfl, hp⟩
      obtain ⟨k, rfl⟩ := Int.eq_ofNat_of_zero_le h4
      refine ok_at (ρ' := [some p, some (tD v), some (.list (ps.map tD)), some (nD i), some (.list (f.map nD)), some (nD k), none, none]) rfl ?_
      walk_at "mx"
      refine ite_dec (fun cc => ?_) (fun cc => ?_)
      · have hk : k < f.length := by rw [List.length_map] at cc; omega
        have hfm : f[k] ∈ (List.range ps.length).filter fr := by rw [← hf]; exact List.getElem_mem hk
        obtain ⟨hfk, hfr⟩ := List.mem_filter.mp hfm
        have hfk := List.mem_range.mp hfk
        walk_at "mx"
        refine ⟨_, gIx_ok (nD_at hk), ?_⟩
        walk_at "mx"
        refine ⟨tD ps[f[k]], gIx_ok (by rw [List.getElem?_map, List.getElem?_eq_getElem hfk]; rfl), ?_⟩
        walk_at "mx"
        have hql := hps.len (List.getElem_mem hfk)
        refine ⟨_, gAddT_ok (by rw [List.length_map]; simp; omega), ?_⟩
        walk_at "mx"
        refine ⟨_, gIx_ok (nD_at hk), ?_⟩
        refine ⟨_, _, f[k], rfl, rfl, ixN_ok (by rw [List.length_map]; exact hfk), ?_⟩
        have e : (ps.set f[k] (ps[f[k]] ++ [i])).map tD = (ps.map tD).set f[k] (.tuple (ps[f[k]].map nD ++ [nD i])) := by rw [List.map_set]; simp [tD]
        refine ⟨p, ps.set f[k] (ps[f[k]] ++ [i]), some (nD i), some (.list (f.map nD)), some (nD k), by rw [e]; rfl, pen_le hp (by omega), hps.join hfk fun hm => ?_⟩
        have e2 : ps.getD f[k] [] = ps[f[k]] := by simp [List.getD_eq_getElem?_getD, hfk]
        have hfr : (!((ps.getD f[k] []).map fun s => v.getD s 0).contains (v.getD i 0)) = true := hfr
        rw [e2, List.contains_iff_mem.mpr hm] at hfr
        cases hfr
      · walk_at "mx"
        refine ⟨_, _, _, rfl, fApp_ok (by rw [List.length_map]; omega), ?_⟩
        exact ⟨p, ps ++ [[i]], some (nD i), some (.list (f.map nD)), some (nD k), by rw [List.map_append]; rfl, pen_le hp (by omega), hps.snoc⟩
  · rintro ρ ⟨p, ps, x3, x4, x5, rfl, hp, hps⟩
    rw [List.length_range] at hp hps
    walk_at "mx"
    refine ok_callOL rfl (sort_tuples fun q hm => hps.ne q hm) ?_
    walk_at "mx"
    exact defK_rt rfl ⟨sortT ps, p, rfl, hps.perm (sortT_perm ps), sortT_again ps, rfl, pen_le hp (by omega)⟩
theorem fold_app {α : Type} (l : List α) (i : Nat) (h : i < l.length) : l.take (i + 1) = l.take i ++ [l[i]] := by rw [List.take_add_one, List.getElem?_eq_getElem h]; rfl
theorem getD_set {α : Type} {l : List α} {i : Nat} (h : i < l.length) (x d : α) (j : Nat) : (l.set i x).getD j d = if j = i then x else l.getD j d := by
  rw [List.getD_eq_getElem?_getD, List.getElem?_set]
  by_cases e : i = j
  · subst e
    rw [if_pos rfl, if_pos h, if_pos rfl]; rfl
  · rw [if_neg e, if_neg (Ne.symm e), List.getD_eq_getElem?_getD]
theorem cell_set {t : Tb} {s x : Nat} {y : Option Nat} (hs : s < t.length) (hx : x < t[s].length) (s' w' : Nat) : cell (t.set s (t[s].set x y)) s' w' = if s' = s ∧ w' = x then y else cell t s' w' := by
  unfold cell
  rw [getD_set hs]
  by_cases h1 : s' = s
  · subst h1
    rw [if_pos rfl, getD_set hx]
    by_cases h2 : w' = x
    · rw [if_pos h2, if_pos ⟨rfl, h2⟩]
    · rw [if_neg h2, if_neg fun z => h2 z.2]
      simp [List.getD_eq_getElem?_getD, hs]
  · rw [if_neg h1, if_neg fun z => h1 z.1]
/-- the table that the law makes of a partition -/
theorem table_ok2 {v : List Nat} {c : Nat} {ps : List (List Nat)} (hv : Vw v c) (hps : Pn v v.length ps) : Ok (m__law_table [tD v, .tuple (ps.map tD)]) (fun z os => ∃ t, z = tabD t ∧ TabOf v c ps t ∧ os = [none, none]) := by
  have hv0 := hv
  obtain ⟨v1, v2, v3, v4, v5⟩ := hv
  refine ok_def (by rfl) ?_
  unfold mb__law_table
  walk_at "mx"
  refine ok_setLL ?_
  walk_at "mx"
  refine ⟨_, rfl, ?_⟩
  refine (comp_map (fun _ => lD (List.replicate c none)) (l := v) ?_).mono ?_
  · intro x _
    refine ⟨_, rfl, ?_⟩
    walk_at "mx"
    refine ⟨_, max_view hv0, ?_⟩
    walk_at "mx"
    refine ⟨List.replicate c .none, by rw [gMul1 _ (by omega) (by omega), show ((c : Int) - 1 + 1).toNat = c by omega], ?_, rfl⟩
    simp [lD, oD]
  · rintro ys ρ ⟨rfl, rfl⟩
    refine ⟨rfl, ?_⟩
    refine then_nx ?_
    -- what is written is right; what is read already is written
    let Go : (Nat → Nat → Prop) → Tb → Prop := fun done t => Tab v.length c t ∧ (∀ s w o, cell t s w = some o → ∃ q ∈ ps, s ∈ q ∧ o ∈ q ∧ v.getD o 0 = w) ∧ ∀ s o, done s o → cell t s (v.getD o 0) = some o
    have put : ∀ (done : Nat → Nat → Prop) (t : Tb) (q : List Nat) (s o : Nat), q ∈ ps → s ∈ q → o ∈ q → Go done t → (∀ s o, done s o → ∃ q ∈ ps, s ∈ q ∧ o ∈ q) → Go (fun s' o' => done s' o' ∨ (s' = s ∧ o' = o)) (t.set s ((t.getD s []).set (v.getD o 0) (some o))) := by
      rintro done t q s o hq hs ho ⟨g1, g2, g3⟩ hd
      have hsn := hps.lt hq hs
      have hon := hps.lt hq ho
      have hst : s < t.length := by rw [g1.1]; exact hsn
      have er : t.getD s [] = t[s] := by simp [List.getD_eq_getElem?_getD, hst]
      have hr := g1.2 t[s] (List.getElem_mem hst)
      have hw := vw_getD hv0 hon
      have cs : ∀ s' w', cell (t.set s ((t.getD s []).set (v.getD o 0) (some o))) s' w' = if s' = s ∧ w' = v.getD o 0 then some o else cell t s' w' := by
        intro s' w'
        rw [er]
        exact cell_set hst (by rw [hr.1]; exact hw) s' w'
      refine ⟨⟨by rw [List.length_set]; exact g1.1, fun r hm => ?_⟩, fun s' w' o' e => ?_, fun s' o' e => ?_⟩
      · rcases List.mem_or_eq_of_mem_set hm with z | z
        · exact g1.2 r z
        · rw [z, er]
          refine ⟨by rw [List.length_set]; exact hr.1, fun e he i hi => ?_⟩
          rcases List.mem_or_eq_of_mem_set he with z | z
          · exact hr.2 e z i hi
          · rw [z] at hi; cases hi; exact hon
      · rw [cs] at e
        split at e
        · rename_i h
          cases e
          exact ⟨q, hq, by rw [h.1]; exact hs, ho, h.2.symm⟩
        · exact g2 s' w' o' e
      · rw [cs]
        split
        · rename_i h
          rcases e with e | e
          · obtain ⟨h1, h2⟩ := h
            subst h1
            obtain ⟨q', e1, e2, e3⟩ := hd _ _ e
            have := hps.uni hq e1 hs e2
            subst this
            rw [hps.dif q hq o' e3 o ho h2]
          · rw [e.2]
        · rename_i h
          rcases e with e | e
          · exact g3 s' o' e
          · exact absurd ⟨e.1, by rw [e.2]⟩ h
    walk_at "mx"
    refine ⟨_, rfl, ?_⟩
    refine for_list (fun k ρ => ∃ (t : Tb) (x3 x4 x5 : Option D), ρ = [some (tD v), some (.tuple (ps.map tD)), some (.list (t.map lD)), x3, x4, x5, none] ∧ Go (fun s o => ∃ q ∈ ps.take k, s ∈ q ∧ o ∈ q) t) ⟨List.replicate v.length (List.replicate c none), none, none, none, ?_, ⟨by simp, fun r hr => ?_⟩, fun s w o e => ?_, fun s o ⟨q, hq, _⟩ => by simp at hq⟩ ?_ ?_
    · rw [List.map_replicate, show v.map (fun _ => lD (List.replicate c none)) = List.replicate v.length (lD (List.replicate c none)) from List.map_const' ..]
      rfl
    · obtain ⟨_, rfl⟩ := List.mem_replicate.mp hr
      exact ⟨by simp, fun e he i hi => by obtain ⟨_, rfl⟩ := List.mem_replicate.mp he; cases hi⟩
    · exfalso
      unfold cell at e
      simp only [List.getD_eq_getElem?_getD, List.getElem?_replicate] at e
      split at e
      · simp only [Option.getD_some, List.getElem?_replicate] at e
        split at e <;> cases e
      · cases e
    · rintro i hi ρ ⟨t, x3, x4, x5, rfl, ht⟩
      have hq := List.getElem_mem hi
      obtain ⟨q, eq⟩ : ∃ q, q = ps[i] := ⟨_, rfl⟩
      rw [← eq] at hq ⊢
      have dt : ∀ s o, (∃ q ∈ ps.take i, s ∈ q ∧ o ∈ q) → ∃ q ∈ ps, s ∈ q ∧ o ∈ q := fun s o ⟨q, h1, h2⟩ => ⟨q, List.mem_of_mem_take h1, h2⟩
      refine ⟨_, rfl, ?_⟩
      refine ok_at (ρ' := [some (tD v), some (.tuple (ps.map tD)), some (.list (t.map lD)), some (tD q), x4, x5, none]) rfl ?_
      walk_at "mx"
      refine ⟨_, rfl, ?_⟩
      refine for_list (fun j ρ => ∃ (t : Tb) (x4 x5 : Option D), ρ = [some (tD v), some (.tuple (ps.map tD)), some (.list (t.map lD)), some (tD q), x4, x5, none] ∧ Go (fun s o => (∃ q ∈ ps.take i, s ∈ q ∧ o ∈ q) ∨ (s ∈ q.take j ∧ o ∈ q)) t) ⟨t, x4, x5, rfl, ht.1, ht.2.1, fun s o e => ?_⟩ ?_ ?_
      · rcases e with e | e
        · exact ht.2.2 s o e
        · simp at e
      · rintro j hj ρ ⟨t, x4, x5, rfl, ht⟩
        have hs := List.getElem_mem hj
        obtain ⟨s, es⟩ : ∃ s, s = q[j] := ⟨_, rfl⟩
        rw [← es] at hs ⊢
        refine ⟨_, rfl, ?_⟩
        refine ok_at (ρ' := [some (tD v), some (.tuple (ps.map tD)), some (.list (t.map lD)), some (tD q), some (nD s), x5, none]) rfl ?_
        walk_at "mx"
        refine ⟨_, rfl, ?_⟩
        refine for_list (fun l ρ => ∃ (t : Tb) (x5 : Option D), ρ = [some (tD v), some (.tuple (ps.map tD)), some (.list (t.map lD)), some (tD q), some (nD s), x5, none] ∧ Go (fun s' o => ((∃ q ∈ ps.take i, s' ∈ q ∧ o ∈ q) ∨ (s' ∈ q.take j ∧ o ∈ q)) ∨ (s' = s ∧ o ∈ q.take l)) t) ⟨t, x5, rfl, ht.1, ht.2.1, fun s' o e => ?_⟩ ?_ ?_
        · rcases e with e | e
          · exact ht.2.2 s' o e
          · simp at e
        · rintro l hl ρ ⟨t, x5, rfl, ht⟩
          have ho := List.getElem_mem hl
          obtain ⟨o, eo⟩ : ∃ o, o = q[l] := ⟨_, rfl⟩
          rw [← eo] at ho ⊢
          have hso := hps.lt hq hs
          have hoo := hps.lt hq ho
          have dt2 : ∀ s' o, (((∃ q ∈ ps.take i, s' ∈ q ∧ o ∈ q) ∨ (s' ∈ q.take j ∧ o ∈ q)) ∨ (s' = s ∧ o ∈ q.take l)) → ∃ q ∈ ps, s' ∈ q ∧ o ∈ q := by
            rintro s' o ((e | ⟨e1, e2⟩) | ⟨e1, e2⟩)
            · exact dt s' o e
            · exact ⟨q, hq, List.mem_of_mem_take e1, e2⟩
            · exact ⟨q, hq, by rw [e1]; exact hs, List.mem_of_mem_take e2⟩
          have hgo := put _ t q s o hq hs ho ht dt2
          refine ⟨_, rfl, ?_⟩
          refine ok_store2 ?_
          walk_at "mx"
          have hst : s < t.length := by rw [ht.1.1]; exact hso
          have er : t.getD s [] = t[s] := by simp [List.getD_eq_getElem?_getD, hst]
          have hr := ht.1.2 t[s] (List.getElem_mem hst)
          have hvo := vw_getD hv0 hoo
          have evo := getD_eq hoo
          refine ⟨t.map lD, (s : Int), (v.getD o 0 : Nat), s, t[s].map oD, v.getD o 0, rfl, rfl, ?_, ixN_ok (by rw [List.length_map]; exact hst), by rw [List.getElem?_map, List.getElem?_eq_getElem hst]; rfl, ixN_ok (by rw [List.length_map, hr.1]; exact hvo), ?_⟩
          · rw [evo]; exact gIxT_ok (nD_at hoo)
          · refine ⟨t.set s ((t.getD s []).set (v.getD o 0) (some o)), some (nD o), ?_, hgo.1, hgo.2.1, fun s' o' e => hgo.2.2 s' o' ?_⟩
            · rw [er, List.map_set, show lD (t[s].set (v.getD o 0) (some o)) = .list ((t[s].map oD).set (v.getD o 0) (nD o)) by simp [lD, List.map_set, oD]]
              rfl
            · rcases e with e | ⟨e1, e2⟩
              · exact .inl (.inl e)
              · rw [fold_app q l hl, List.mem_append, List.mem_singleton, ← eo] at e2
                rcases e2 with e2 | e2
                · exact .inl (.inr ⟨e1, e2⟩)
                · exact .inr ⟨e1, e2⟩
        · rintro ρ ⟨t, x5, rfl, ht⟩
          refine ⟨t, _, x5, rfl, ht.1, ht.2.1, fun s' o' e => ht.2.2 s' o' ?_⟩
          rw [List.take_length]
          rcases e with e | ⟨e1, e2⟩
          · exact .inl (.inl e)
          · rw [fold_app q j hj, List.mem_append, List.mem_singleton, ← es] at e1
            rcases e1 with e1 | e1
            · exact .inl (.inr ⟨e1, e2⟩)
            · exact .inr ⟨e1, e2⟩
      · rintro ρ ⟨t, x4, x5, rfl, ht⟩
        refine ⟨t, _, x4, x5, rfl, ht.1, ht.2.1, fun s' o' e => ht.2.2 s' o' ?_⟩
        rw [List.take_length]
        obtain ⟨q', e1, e2⟩ := e
        rw [fold_app ps i hi, List.mem_append, List.mem_singleton, ← eq] at e1
        rcases e1 with e1 | e1
        · exact .inl ⟨q', e1, e2⟩
        · rw [e1] at e2; exact .inr e2
    · rintro ρ ⟨t, x3, x4, x5, rfl, ht⟩
      refine then_nx ?_
      walk_at "mx"
      refine ok_moveD rfl rfl ?_
      refine ⟨_, rfl, ?_⟩
      refine (comp_map (fun r : List (Option Nat) => rD r) (l := t) ?_).mono ?_
      · intro r _
        refine ⟨_, rfl, ?_⟩
        walk_at "mx"
        exact ⟨rfl, rfl⟩
      · rintro ys ρ ⟨rfl, rfl⟩
        walk_at "mx"
        refine defK_rt rfl ⟨t, rfl, ⟨ht.1, fun s w hs hw o => ⟨fun e => ht.2.1 s w o e, fun ⟨q, e1, e2, e3, e4⟩ => ?_⟩⟩, rfl⟩
        rw [← e4]
        exact ht.2.2 s o ⟨q, by rw [List.take_length]; exact e1, e2, e3⟩
end Pf
namespace Pf
open PySem MW
theorem whole_ok (d : D) (P : D → Ev → Prop) (h : ∀ b, (∀ i : Int, d = .int i → b = true) → P (.bool b) [none]) : Ok (m_is_whole [d]) P := by
  refine ok_def (by rfl) ?_
  unfold mb_is_whole
  walk_at "mx"
  refine ⟨isD "int" d, rfl, ?_⟩
  cases e : isD "int" d with
  | true =>
    refine L2.iteT ?_
    walk_at "mx"
    refine defK_rt rfl (h _ fun i e => ?_)
    subst e; rfl
  | false =>
    refine L2.iteF ?_
    refine defK_rt rfl (h _ fun i e' => ?_)
    subst e'
    cases e
theorem below_ok (i : Int) (n : Int) (h0 : 0 ≤ i) (h1 : i < n) : Ok (m_is_below [.int i, .int n]) (fun z os => z = .bool true ∧ os = [none, none]) := by
  refine ok_def (by rfl) ?_
  unfold mb_is_below
  walk_at "mx"
  refine whole_ok _ _ fun b hb => ?_
  have := hb i rfl
  subst this
  refine ⟨_, rfl, L2.iteT ?_⟩
  walk_at "mx"
  rw [decide_eq_true h0]
  refine L2.iteT ?_
  walk_at "mx"
  rw [decide_eq_true h1]
  exact defK_rt rfl ⟨rfl, rfl⟩
theorem all_true (n : Nat) : gAll [.list (List.replicate n (.bool true))] = some (.bool true) := by
  have e : ∀ n, boolsD (List.replicate n (PyData.bool true)) = some (List.replicate n true) := by
    intro n
    induction n with
    | zero => rfl
    | succ n ih =>
      unfold boolsD at ih ⊢
      rw [List.replicate_succ, List.mapM_cons, ih]
      rfl
  show ((boolsD (List.replicate n (PyData.bool true))).map fun ns => PyData.bool (ns.all id)) = _
  rw [e]
  simp
theorem view_is {v : List Nat} {c : Nat} (hv : Vw v c) : Ok (m_is_view [tD v]) (fun z os => z = .bool true ∧ os = [none]) := by
  have hv0 := hv
  obtain ⟨v1, v2, v3, v4, v5⟩ := hv
  refine ok_def (by rfl) ?_
  unfold mb_is_view
  walk_at "mx"
  refine ⟨_, rfl, ?_⟩
  refine L2.iteF ?_
  walk_at "mx"
  rw [List.length_map, decide_eq_true (show (1 : Int) ≤ (v.length : Int) by omega)]
  refine L2.iteT ?_
  walk_at "mx"
  rw [decide_eq_true (show (v.length : Int) ≤ 9 by omega)]
  refine L2.iteF ?_
  refine ok_next ?_
  refine then_nx ?_
  walk_at "mx"
  refine ⟨_, rfl, ?_⟩
  refine comp_inv (fun k ys ρ => ρ = [some (tD v), none] ∧ ys = List.replicate k (.bool true)) 0 [] ⟨rfl, rfl⟩ ?_ ?_
  · rintro i d ys ρ hi0 ⟨rfl, rfl⟩
    obtain ⟨hi, rfl⟩ := at_map hi0
    refine ⟨_, rfl, ?_⟩
    walk_at "mx"
    have := v4 v[i] (List.getElem_mem hi)
    show Ok (m_is_below [.int (v[i] : Nat), .int ((v.map nD).length : Int)]) _
    rw [List.length_map]
    refine (below_ok _ _ (by omega) (by omega)).mono ?_
    rintro z os ⟨rfl, rfl⟩
    refine ⟨rfl, ?_⟩
    rw [show 0 + (i + 1) = 0 + i + 1 by omega, List.replicate_succ']
  rintro ys ρ ⟨rfl, e⟩
  rw [List.nil_append] at e
  subst e
  walk_at "mx"
  refine ⟨_, all_true _, ?_⟩
  refine ⟨_, rfl, ?_⟩
  refine L2.iteF ?_
  refine ok_next ?_
  refine then_nx ?_
  refine ok_at (ρ' := [some (tD v), none]) rfl ?_
  have hset : gLenSet (tD v) = some (.int c) := by
    have e : ∀ q : List Nat, intsOf (q.map nD) = some (q.map Int.ofNat) := by
      intro q
      induction q with
      | nil => rfl
      | cons x q ih => show (intsOf (q.map nD)).map (_ :: ·) = _; rw [ih]; rfl
    show ((intsOf (v.map nD)).bind fun ns => if ns.length ≤ 4000 then some (PyData.int ((dd ns).length : Nat)) else none) = _
    rw [e]
    show (if (v.map Int.ofNat).length ≤ 4000 then some (PyData.int ((dd (v.map Int.ofNat)).length : Nat)) else none) = _
    rw [if_pos (by rw [List.length_map]; omega)]
    have h1 : (dd (v.map Int.ofNat)).length = ((List.range c).map Int.ofNat).length := by
      refine nodup_len (dd_nodup _) ?_ fun n => ?_
      · have hr : ∀ n : Nat, ((List.range n).map Int.ofNat).Nodup := by
          intro n
          induction n with
          | zero => exact List.nodup_nil
          | succ n ih =>
            rw [List.range_succ, List.map_append]
            refine List.nodup_append.mpr ⟨ih, by simp, fun a ha b hb e => ?_⟩
            obtain ⟨x, hx, e1⟩ := List.mem_map.mp ha
            have := List.mem_range.mp hx
            have hb : b = Int.ofNat n := by simpa using hb
            rw [hb, ← e1] at e
            have e : (x : Int) = (n : Int) := e
            omega
        exact hr c
      · rw [mem_dd, List.mem_map, List.mem_map]
        constructor
        · rintro ⟨x, hx, e⟩
          exact ⟨x, List.mem_range.mpr (v4 x hx), e⟩
        · rintro ⟨x, hx, e⟩
          exact ⟨x, v5 x (List.mem_range.mp hx), e⟩
    rw [h1, List.length_map, List.length_range]
  walk_at "mx"
  refine ⟨_, hset, ?_⟩
  walk_at "mx"
  refine ⟨_, max_view hv0, ?_⟩
  walk_at "mx"
  rw [show (c : Int) - 1 + 1 = c by omega]
  refine ⟨.bool true, ?_, defK_rt rfl ⟨rfl, rfl⟩⟩
  show (bEq (.int c) (.int c)).map PyData.bool = _
  rw [bEq_int]
  simp
theorem need_view {v : List Nat} {c : Nat} (hv : Vw v c) : Ok (m_need_view [tD v]) (fun z os => os = [none]) := by
  refine ok_def (by rfl) ?_
  unfold mb_need_view
  walk_at "mx"
  refine (view_is hv).mono ?_
  rintro z os ⟨rfl, rfl⟩
  refine ⟨_, rfl, ?_⟩
  refine L2.iteF ?_
  walk_at "mx"
  exact defK_nx rfl rfl
theorem count_ok {v : List Nat} {c : Nat} (hv : Vw v c) : Ok (m_count_values [tD v]) (fun z os => z = .int c ∧ os = [none]) := by
  refine ok_def (by rfl) ?_
  unfold mb_count_values
  walk_at "mx"
  refine ⟨_, max_view hv, ?_⟩
  walk_at "mx"
  rw [show (c : Int) - 1 + 1 = c by omega]
  exact defK_rt rfl ⟨rfl, rfl⟩
theorem row_ok {v : List Nat} {c : Nat} {r : List (Option Nat)} (hv : Vw v c) (hr : RowOk v.length c r) : Ok (m__is_row [tD v, rD r]) (fun z os => z = .bool true ∧ os = [none, none]) := by
  refine ok_def (by rfl) ?_
  unfold mb__is_row
  walk_at "mx"
  refine ⟨_, rfl, ?_⟩
  refine L2.iteF ?_
  walk_at "mx"
  refine (count_ok hv).mono ?_
  rintro z os ⟨rfl, rfl⟩
  refine ⟨_, bNe_int _ _, ?_⟩
  rw [List.length_map, hr.1, beq_self_eq_true]
  refine L2.iteF ?_
  refine ok_next ?_
  refine then_nx ?_
  refine ok_at (ρ' := [some (tD v), some (rD r), none]) rfl ?_
  walk_at "mx"
  refine ⟨_, rfl, ?_⟩
  refine comp_inv (fun k ys ρ => ρ = [some (tD v), some (rD r), none] ∧ ys = List.replicate k (.bool true)) 0 [] ⟨rfl, rfl⟩ ?_ ?_
  · rintro i d ys ρ hi0 ⟨rfl, rfl⟩
    obtain ⟨hi, rfl⟩ := at_map hi0
    refine ⟨_, rfl, ?_⟩
    walk_at "mx"
    have hb := hr.2 r[i] (List.getElem_mem hi)
    have fin : ∀ (ρ : Ev), ρ = [some (tD v), some (rD r), none] → ρ = [some (tD v), some (rD r), none] ∧ List.replicate (0 + i) (PyData.bool true) ++ [.bool true] = List.replicate (0 + (i + 1)) (PyData.bool true) := fun ρ h => ⟨h, by rw [show 0 + (i + 1) = 0 + i + 1 by omega, List.replicate_succ']⟩
    cases e : r[i] with
    | none =>
      refine ⟨.bool true, rfl, true, rfl, L2.iteT ?_⟩
      exact fin _ rfl
    | some j =>
      refine ⟨.bool false, rfl, false, rfl, L2.iteF ?_⟩
      walk_at "mx"
      show Ok (m_is_below [.int (j : Nat), .int ((v.map nD).length : Int)]) _
      rw [List.length_map]
      have := hb j e
      refine (below_ok _ _ (by omega) (by omega)).mono ?_
      rintro z os ⟨rfl, rfl⟩
      exact fin _ rfl
  rintro ys ρ ⟨rfl, e⟩
  rw [List.nil_append] at e
  subst e
  walk_at "mx"
  refine ⟨_, all_true _, ?_⟩
  exact defK_rt rfl ⟨rfl, rfl⟩
theorem table_is {v : List Nat} {c : Nat} {t : List (List (Option Nat))} (hv : Vw v c) (ht : Tab v.length c t) : Ok (m_is_table [tD v, tabD t]) (fun z os => z = .bool true ∧ os = [none, none]) := by
  refine ok_def (by rfl) ?_
  unfold mb_is_table
  walk_at "mx"
  refine (need_view hv).mono ?_
  rintro z os rfl
  refine then_nx ?_
  refine ok_at (ρ' := [some (tD v), some (tabD t), none]) rfl ?_
  walk_at "mx"
  refine ⟨_, rfl, ?_⟩
  refine L2.iteF ?_
  walk_at "mx"
  refine ⟨_, bNe_int _ _, ?_⟩
  rw [List.length_map, List.length_map, ht.1, beq_self_eq_true]
  refine L2.iteF ?_
  refine ok_next ?_
  refine then_nx ?_
  walk_at "mx"
  refine ⟨_, rfl, ?_⟩
  refine comp_inv (fun k ys ρ => ρ = [some (tD v), some (tabD t), none] ∧ ys = List.replicate k (.bool true)) 0 [] ⟨rfl, rfl⟩ ?_ ?_
  · rintro i d ys ρ hi0 ⟨rfl, rfl⟩
    obtain ⟨hi, rfl⟩ := at_map hi0
    refine ⟨_, rfl, ?_⟩
    walk_at "mx"
    refine (row_ok hv (ht.2 t[i] (List.getElem_mem hi))).mono ?_
    rintro z os ⟨rfl, rfl⟩
    refine ⟨rfl, ?_⟩
    rw [show 0 + (i + 1) = 0 + i + 1 by omega, List.replicate_succ']
  rintro ys ρ ⟨rfl, e⟩
  rw [List.nil_append] at e
  subst e
  walk_at "mx"
  refine ⟨_, all_true _, ?_⟩
  exact defK_rt rfl ⟨rfl, rfl⟩
theorem need_table {v : List Nat} {c : Nat} {t : List (List (Option Nat))} (hv : Vw v c) (ht : Tab v.length c t) : Ok (m_need_table [tD v, tabD t]) (fun z os => os = [none, none]) := by
  refine ok_def (by rfl) ?_
  unfold mb_need_table
  walk_at "mx"
  refine (table_is hv ht).mono ?_
  rintro z os ⟨rfl, rfl⟩
  refine ⟨_, rfl, ?_⟩
  refine L2.iteF ?_
  walk_at "mx"
  exact defK_nx rfl rfl
end Pf
namespace Pf
open PySem MW
def B1 (v : List Nat) (t : List (List (Option Nat))) (s : Nat) : Option D := if cell t s (v.getD s 0) == some s then none else some (.tuple [.str "stay", nD s])
def B2 (v : List Nat) (t : List (List (Option Nat))) (s w : Nat) : Option D := match cell t s w with
  | none => none
  | some r => if v.getD r 0 == w then none else some (.tuple [.str "shown", nD s, nD w])
def B3 (t : List (List (Option Nat))) (s w o : Nat) : Option D := match cell t s w with
  | none => none
  | some r => if cell t r o == cell t s o then none else some (.tuple [.str "forget", nD s, nD w, nD o])
def ended (x : Option D) : D := x.getD .none
theorem getD_at {v : List Nat} {i : Nat} (h : i < v.length) : v.getD i 0 = v[i] := by simp [List.getD_eq_getElem?_getD, h]
theorem stay_ok {v : List Nat} {c : Nat} {t : List (List (Option Nat))} (hv : Vw v c) (ht : Tab v.length c t) : Ok (m__broken_stay [tD v, tabD t]) (fun z os => z = ended (findFrom (B1 v t) 0 v.length) ∧ os = [none, none]) := by
  obtain ⟨v1, v2, v3, v4, v5⟩ := hv
  refine ok_def (by rfl) ?_
  unfold mb__broken_stay
  walk_at "mx"
  refine ⟨_, .inr rfl, ?_⟩
  have hf := for_find (St := fun ρ => ∃ x2 x3, ρ = [some (tD v), some (tabD t), x2, x3]) (f := B1 v t) (items := enumD (v.map nD)) (g := gN2 2 3) (mb := mIfS (mTest bNe (mBin gIx (mBin gIx (mVar 1) (mVar 2)) (mVar 3)) (mVar 2)) (mRet (mTup (mCons (mC (.str "stay")) (mCons (mVar 2) mNil)))) mNext) (ρ := [some (tD v), some (tabD t), none, none]) 0 ⟨none, none, rfl⟩ ?_
  · refine hf.mono ?_
    intro fl ρ h
    rw [enum_len] at h
    cases e : findFrom (B1 v t) 0 v.length with
    | none =>
      rw [e] at h
      obtain ⟨rfl, x2, x3, rfl⟩ := h
      walk_at "mx"
      exact defK_rt rfl ⟨rfl, rfl⟩
    | some r =>
      rw [e] at h
      have h : fl = .rt r := h
      subst h
      exact then_rt (defK_rt rfl ⟨rfl, rfl⟩)
  · rintro i d ρ hi0 ⟨x2, x3, rfl⟩
    obtain ⟨hi, rfl⟩ := enum_at hi0
    refine ⟨_, rfl, ?_⟩
    walk_at "mx"
    have hit : i < t.length := by rw [ht.1]; exact hi
    have hr := ht.2 t[i] (List.getElem_mem hit)
    have hvi := v4 v[i] (List.getElem_mem hi)
    have hc : v[i] < t[i].length := by rw [hr.1]; exact hvi
    refine ⟨_, gIxT_ok (map_at hit), ?_⟩
    walk_at "mx"
    refine ⟨_, gIxT_ok (map_at hc), ?_⟩
    walk_at "mx"
    refine ⟨_, bNe_oD _ (some i), ?_⟩
    have e : B1 v t (0 + i) = if t[i][v[i]] == some i then none else some (.tuple [.str "stay", nD i]) := by
      unfold B1
      rw [Nat.zero_add, getD_at hi, cell_at hit hc]
    rw [e]
    cases hb : (t[i][v[i]] == some i) with
    | true =>
      refine L2.iteF ?_
      refine ok_next ?_
      rw [if_pos rfl]
      exact ⟨.inl rfl, _, _, rfl⟩
    | false =>
      refine L2.iteT ?_
      walk_at "mx"
      rfl
theorem bIsNot_oD (x : Option Nat) : bIsNot (oD x) .none = some x.isSome := by cases x <;> rfl
theorem bIs_oD (x : Option Nat) : bIs (oD x) .none = some x.isNone := by cases x <;> rfl
theorem shown_ok {v : List Nat} {c : Nat} {t : List (List (Option Nat))} (hv : Vw v c) (ht : Tab v.length c t) : Ok (m__broken_shown [tD v, tabD t]) (fun z os => z = ended (findFrom (fun s => findFrom (B2 v t s) 0 c) 0 v.length) ∧ os = [none, none]) := by
  obtain ⟨v1, v2, v3, v4, v5⟩ := hv
  refine ok_def (by rfl) ?_
  unfold mb__broken_shown
  walk_at "mx"
  refine ⟨_, .inr rfl, ?_⟩
  refine (for_find (St := fun ρ => ∃ x2 x3 x4 x5, ρ = [some (tD v), some (tabD t), x2, x3, x4, x5]) (f := fun s => findFrom (B2 v t s) 0 c) 0 ⟨none, none, none, none, rfl⟩ ?_).mono ?_
  · rintro i d ρ hi0 ⟨x2, x3, x4, x5, rfl⟩
    obtain ⟨hi, rfl⟩ := enum_at hi0
    have hr := ht.2 t[i] (List.getElem_mem hi)
    refine ⟨_, rfl, ?_⟩
    refine ok_at (ρ' := [some (tD v), some (tabD t), some (nD i), some (rD t[i]), x4, x5]) rfl ?_
    walk_at "mx"
    refine ⟨_, .inr rfl, ?_⟩
    refine (for_find (St := fun ρ => ∃ x4 x5, ρ = [some (tD v), some (tabD t), some (nD i), some (rD t[i]), x4, x5]) (f := B2 v t i) 0 ⟨x4, x5, rfl⟩ ?_).mono ?_
    · rintro w d ρ hw0 ⟨x4, x5, rfl⟩
      obtain ⟨hw, rfl⟩ := enum_at hw0
      have e : B2 v t i (0 + w) = match t[i][w] with
          | none => none
          | some r => if v.getD r 0 == w then none else some (.tuple [.str "shown", nD i, nD w]) := by
        unfold B2
        rw [Nat.zero_add, cell_at hi hw]
      refine ⟨_, rfl, ?_⟩
      refine ok_at (ρ' := [some (tD v), some (tabD t), some (nD i), some (rD t[i]), some (nD w), some (oD t[i][w])]) rfl ?_
      walk_at "mx"
      refine ⟨_, bIsNot_oD _, ?_⟩
      have hb := hr.2 t[i][w] (List.getElem_mem hw)
      cases e2 : t[i][w] with
      | none =>
        rw [e, e2]
        refine L2.iteF ?_
        refine L2.iteF ?_
        exact ⟨.inl rfl, _, _, rfl⟩
      | some r =>
        have hrv := hb r e2
        have e' : B2 v t i (0 + w) = if v[r] == w then none else some (.tuple [.str "shown", nD i, nD w]) := by
          rw [e, e2]
          show (if v.getD r 0 == w then none else some _) = _
          rw [getD_at hrv]
        rw [e']
        refine L2.iteT ?_
        walk_at "mx"
        refine ⟨_, gIxT_ok (nD_at hrv), ?_⟩
        walk_at "mx"
        refine ⟨_, bNe_oD (some v[r]) (some w), ?_⟩
        have e3 : (some v[r] == some w) = (v[r] == w) := rfl
        rw [e3]
        cases e4 : (v[r] == w) with
        | true =>
          refine L2.iteF ?_
          rw [if_pos rfl]
          exact ⟨.inl rfl, _, _, rfl⟩
        | false =>
          refine L2.iteT ?_
          walk_at "mx"
          rfl
    · intro fl ρ h
      rw [enum_len, hr.1] at h
      rw [Nat.zero_add]
      exact h.hit fun ρ ⟨y4, y5, e⟩ => ⟨_, _, y4, y5, e⟩
  · intro fl ρ h
    rw [enum_len, ht.1] at h
    cases e : findFrom (fun s => findFrom (B2 v t s) 0 c) 0 v.length with
    | none =>
      rw [e] at h
      obtain ⟨rfl, x2, x3, x4, x5, rfl⟩ := h
      walk_at "mx"
      exact defK_rt rfl ⟨rfl, rfl⟩
    | some r =>
      rw [e] at h
      have h : fl = .rt r := h
      subst h
      exact then_rt (defK_rt rfl ⟨rfl, rfl⟩)
theorem forget_ok {n : Nat} {c : Nat} {t : List (List (Option Nat))} (ht : Tab n c t) : Ok (m__broken_forget [tabD t]) (fun z os => z = ended (findFrom (fun s => findFrom (fun w => findFrom (B3 t s w) 0 c) 0 c) 0 n) ∧ os = [none]) := by
  refine ok_def (by rfl) ?_
  unfold mb__broken_forget
  walk_at "mx"
  refine ⟨_, .inr rfl, ?_⟩
  refine (for_find (St := fun ρ => ∃ x1 x2 x3 x4 x5 x6, ρ = [some (tabD t), x1, x2, x3, x4, x5, x6]) (f := fun s => findFrom (fun w => findFrom (B3 t s w) 0 c) 0 c) 0 ⟨none, none, none, none, none, none, rfl⟩ ?_).mono ?_
  · rintro i d ρ hi0 ⟨x1, x2, x3, x4, x5, x6, rfl⟩
    obtain ⟨hi, rfl⟩ := enum_at hi0
    have hr := ht.2 t[i] (List.getElem_mem hi)
    refine ⟨_, rfl, ?_⟩
    refine ok_at (ρ' := [some (tabD t), some (nD i), some (rD t[i]), x3, x4, x5, x6]) rfl ?_
    walk_at "mx"
    refine ⟨_, .inr rfl, ?_⟩
    refine (for_find (St := fun ρ => ∃ x3 x4 x5 x6, ρ = [some (tabD t), some (nD i), some (rD t[i]), x3, x4, x5, x6]) (f := fun w => findFrom (B3 t i w) 0 c) 0 ⟨x3, x4, x5, x6, rfl⟩ ?_).mono ?_
    · rintro w d ρ hw0 ⟨x3, x4, x5, x6, rfl⟩
      obtain ⟨hw, rfl⟩ := enum_at hw0
      refine ⟨_, rfl, ?_⟩
      refine ok_at (ρ' := [some (tabD t), some (nD i), some (rD t[i]), some (nD w), some (oD t[i][w]), x5, x6]) rfl ?_
      walk_at "mx"
      refine ⟨_, bIs_oD _, ?_⟩
      have hb := hr.2 t[i][w] (List.getElem_mem hw)
      have hcw : cell t i w = t[i][w] := cell_at hi hw
      cases e2 : t[i][w] with
      | none =>
        refine L2.iteT ?_
        have e : findFrom (B3 t i (0 + w)) 0 c = none := by
          rw [findFrom_congr (g := fun _ => none) c 0 fun o _ _ => by unfold B3; rw [Nat.zero_add, hcw, e2], findFrom_none]
        rw [e]
        exact ⟨.inr rfl, _, _, _, _, rfl⟩
      | some r =>
        have hrn := hb r e2
        have hrt : r < t.length := by rw [ht.1]; exact hrn
        have hrr := ht.2 t[r] (List.getElem_mem hrt)
        refine L2.iteF ?_
        refine ok_next ?_
        refine then_nx ?_
        walk_at "mx"
        refine ⟨_, .inr rfl, ?_⟩
        refine (for_find (St := fun ρ => ∃ x5 x6, ρ = [some (tabD t), some (nD i), some (rD t[i]), some (nD w), some (oD (some r)), x5, x6]) (f := B3 t i w) 0 ⟨x5, x6, rfl⟩ ?_).mono ?_
        · rintro o d ρ ho0 ⟨x5, x6, rfl⟩
          obtain ⟨ho, rfl⟩ := enum_at ho0
          have hor : o < t[r].length := by rw [hrr.1, ← hr.1]; exact ho
          refine ⟨_, rfl, ?_⟩
          refine ok_at (ρ' := [some (tabD t), some (nD i), some (rD t[i]), some (nD w), some (nD r), some (nD o), some (oD t[i][o])]) rfl ?_
          walk_at "mx"
          refine ⟨_, gIxT_ok (map_at hrt), ?_⟩
          walk_at "mx"
          refine ⟨_, gIxT_ok (map_at hor), ?_⟩
          walk_at "mx"
          refine ⟨_, bNe_oD _ _, ?_⟩
          have e : B3 t i w (0 + o) = if t[r][o] == t[i][o] then none else some (.tuple [.str "forget", nD i, nD w, nD o]) := by
            unfold B3
            rw [Nat.zero_add, hcw, e2]
            show (if cell t r o == cell t i o then none else some _) = _
            rw [cell_at hrt hor, cell_at hi ho]
          rw [e]
          cases e4 : (t[r][o] == t[i][o]) with
          | true =>
            refine L2.iteF ?_
            rw [if_pos rfl]
            exact ⟨.inl rfl, _, _, rfl⟩
          | false =>
            refine L2.iteT ?_
            walk_at "mx"
            rfl
        · intro fl ρ h
          rw [enum_len, hr.1] at h
          rw [Nat.zero_add]
          exact h.hit fun ρ ⟨y5, y6, e⟩ => ⟨_, _, y5, y6, e⟩
    · intro fl ρ h
      rw [enum_len, hr.1] at h
      rw [Nat.zero_add]
      exact h.hit fun ρ ⟨y3, y4, y5, y6, e⟩ => ⟨_, _, y3, y4, y5, y6, e⟩
  · intro fl ρ h
    rw [enum_len, ht.1] at h
    cases e : findFrom (fun s => findFrom (fun w => findFrom (B3 t s w) 0 c) 0 c) 0 n with
    | none =>
      rw [e] at h
      obtain ⟨rfl, x1, x2, x3, x4, x5, x6, rfl⟩ := h
      walk_at "mx"
      exact defK_rt rfl ⟨rfl, rfl⟩
    | some r =>
      rw [e] at h
      have h : fl = .rt r := h
      subst h
      exact then_rt (defK_rt rfl ⟨rfl, rfl⟩)
end Pf
namespace Pf
open PySem MW
/-- the first broken rule -/
def brk (v : List Nat) (c : Nat) (t : List (List (Option Nat))) : Option D := match findFrom (B1 v t) 0 v.length with
  | some r => some r
  | none => match findFrom (fun s => findFrom (B2 v t s) 0 c) 0 v.length with
    | some r => some r
    | none => findFrom (fun s => findFrom (fun w => findFrom (B3 t s w) 0 c) 0 c) 0 v.length
theorem found {f : Nat → Option D} {r : D} : ∀ {n k : Nat}, findFrom f k n = some r → ∃ i, f i = some r
  | n + 1, k, h => by
    unfold findFrom at h
    cases e : f k with
    | some x => rw [e] at h; exact ⟨k, e.trans h⟩
    | none => rw [e] at h; exact found h
def Sh (r : D) : Prop := ∃ (x : Str) (l : List Nat), r = .tuple (.str x :: l.map nD) ∧ SeqAt.shaped (.str x) = true
theorem sh1 {v : List Nat} {t : List (List (Option Nat))} {n : Nat} {r : D} (h : findFrom (B1 v t) 0 n = some r) : Sh r := by
  obtain ⟨i, e⟩ := found h
  unfold B1 at e
  split at e
  · cases e
  · cases e; exact ⟨_, [i], rfl, by decide +kernel⟩
theorem sh2 {v : List Nat} {t : List (List (Option Nat))} {n c : Nat} {r : D} (h : findFrom (fun s => findFrom (B2 v t s) 0 c) 0 n = some r) : Sh r := by
  obtain ⟨i, e⟩ := found h
  obtain ⟨j, e⟩ := found e
  unfold B2 at e
  split at e
  · cases e
  · split at e
    · cases e
    · cases e; exact ⟨_, [i, j], rfl, by decide +kernel⟩
theorem truth_sh {r : D} (h : Sh r) : truth r = some true := by
  obtain ⟨x, l, rfl, _⟩ := h
  rfl
theorem broken_ok {v : List Nat} {c : Nat} {t : List (List (Option Nat))} (hv : Vw v c) (ht : Tab v.length c t) : Ok (m_broken [tD v, tabD t]) (fun z os => z = ended (brk v c t) ∧ os = [none, none]) := by
  refine ok_def (by rfl) ?_
  unfold mb_broken
  walk_at "mx"
  refine (need_table hv ht).mono ?_
  rintro z os rfl
  refine then_nx ?_
  refine ok_at (ρ' := [some (tD v), some (tabD t)]) rfl ?_
  walk_at "mx"
  refine (stay_ok hv ht).mono ?_
  rintro z os ⟨rfl, rfl⟩
  unfold brk
  cases e1 : findFrom (B1 v t) 0 v.length with
  | some r =>
    refine ⟨true, truth_sh (sh1 e1), L2.iteT ?_⟩
    exact defK_rt rfl ⟨rfl, rfl⟩
  | none =>
    refine ⟨false, rfl, L2.iteF ?_⟩
    refine ok_at (ρ' := [some (tD v), some (tabD t)]) rfl ?_
    walk_at "mx"
    refine (shown_ok hv ht).mono ?_
    rintro z os ⟨rfl, rfl⟩
    cases e2 : findFrom (fun s => findFrom (B2 v t s) 0 c) 0 v.length with
    | some r =>
      refine ⟨true, truth_sh (sh2 e2), L2.iteT ?_⟩
      exact defK_rt rfl ⟨rfl, rfl⟩
    | none =>
      refine ⟨false, rfl, L2.iteF ?_⟩
      refine ok_at (ρ' := [some (tD v), some (tabD t)]) rfl ?_
      walk_at "mx"
      refine (forget_ok ht).mono ?_
      rintro z os ⟨rfl, rfl⟩
      exact defK_rt rfl ⟨rfl, rfl⟩
end Pf
namespace Pf
open PySem MW
theorem findFrom_no {f : Nat → Option D} : ∀ (n k : Nat), (∀ i, k ≤ i → i < k + n → f i = none) → findFrom f k n = none
  | 0, _, _ => rfl
  | n + 1, k, h => by
    unfold findFrom
    rw [h k (Nat.le_refl _) (by omega)]
    exact findFrom_no n (k + 1) fun i h1 h2 => h i (by omega) (by omega)
theorem brk_none {v : List Nat} {c : Nat} {t : Tb} (h : Sound v c t) : brk v c t = none := by
  unfold brk
  rw [findFrom_no (f := B1 v t) v.length 0 fun i _ hi => ?_, findFrom_no v.length 0 fun s _ hs => ?_]
  · refine findFrom_no v.length 0 fun s _ hs => findFrom_no c 0 fun w _ hw => findFrom_no c 0 fun o _ ho => ?_
    unfold B3
    cases e : cell t s w with
    | none => rfl
    | some r =>
      have := h.forget s w r (by omega) (by omega) e o (by omega)
      simp [this]
  · refine findFrom_no c 0 fun w _ hw => ?_
    unfold B2
    cases e : cell t s w with
    | none => rfl
    | some r =>
      have := h.shown s w r (by omega) (by omega) e
      simp only [this, beq_self_eq_true, if_true]
  · unfold B1
    have := h.stay i (by omega)
    rw [this, if_pos (by simp)]
theorem broken_sound {v : List Nat} {c : Nat} {t : Tb} (hv : Vw v c) (h : Sound v c t) : Ok (m_broken [tD v, tabD t]) (fun z os => z = .none ∧ os = [none, none]) := by
  refine (broken_ok hv h.tab).mono ?_
  rintro z os ⟨rfl, rfl⟩
  rw [brk_none h]
  exact ⟨rfl, rfl⟩
theorem need_sound_ok {v : List Nat} {c : Nat} {t : Tb} (hv : Vw v c) (h : Sound v c t) : Ok (m_need_sound [tD v, tabD t]) (fun z os => z = .none ∧ os = [none, none]) := by
  refine ok_def (by rfl) ?_
  unfold mb_need_sound
  walk_at "mx"
  refine (broken_sound hv h).mono ?_
  rintro z os ⟨rfl, rfl⟩
  refine ok_c ?_
  refine ⟨false, rfl, L2.iteF ?_⟩
  refine ok_next ?_
  exact defK_nx rfl ⟨rfl, rfl⟩
end Pf
namespace Pf
open PySem MW
theorem ok_testOwn {b : D → D → Option Bool} {ma : Ev → Out D} {i : Nat} {ρ : Ev} {PB : Bool → Ev → Prop} (h : Ok (ma ρ) fun d ρ1 => ∃ e, rd ρ1 i = some e ∧ ∃ z, b d e = some z ∧ PB z ρ1) : Ok (mTestOwn b ma i ρ) PB := ok_bind (h.mono fun d ρ1 ⟨e, e1, z, e2, k⟩ => ok_bind (ok_of e1 (ok_of e2 k)))
/-- a view with names told in the order in which they come, or turned about -/
theorem names_view {raw names : List Nat} (hn : names.Nodup) (hm : ∀ x, x ∈ names ↔ x ∈ raw) (h1 : 1 ≤ raw.length) (h9 : raw.length ≤ 9) (hl : names.length ≤ raw.length) : Vw (raw.map fun x => names.idxOf x) names.length := by
  refine ⟨by simpa using h1, by simpa using h9, ⟨?_, by simpa using hl⟩, fun x hx => ?_, fun y hy => ?_⟩
  · have := List.getElem_mem (show 0 < raw.length by omega)
    exact List.length_pos_of_mem ((hm _).mpr this)
  · obtain ⟨r, hr, rfl⟩ := List.mem_map.mp hx
    exact List.idxOf_lt_length_iff.mpr ((hm r).mpr hr)
  · exact List.mem_map.mpr ⟨names[y], (hm _).mp (List.getElem_mem hy), hn.idxOf_getElem y hy⟩
end Pf
namespace Pf
open PySem MW
def toIs (q : List Nat) : List Int := q.map Int.ofNat
theorem tI_ints (q : List Nat) : tI (toIs q) = tD q := by
  show PyData.tuple ((q.map Int.ofNat).map PyData.int) = _
  rw [List.map_map]
  rfl
theorem ints_inj {a b : List Nat} (h : toIs a = toIs b) : a = b := by
  have : ∀ a b : List Nat, toIs a = toIs b → a = b := by
    intro a
    induction a with
    | nil => intro b h; cases b with | nil => rfl | cons _ _ => cases h
    | cons x a ih =>
      intro b h
      cases b with
      | nil => cases h
      | cons y b =>
        have h : Int.ofNat x :: toIs a = Int.ofNat y :: toIs b := h
        injection h with h1 h2
        injection h1 with h1
        rw [h1, ih b h2]
  exact this a b h
theorem leI_ints (a b : List Nat) : leI (toIs a) (toIs b) = leN a b := by
  rw [← leD_tI, tI_ints, tI_ints, leD_tD]
theorem sortK_ints (ps : List (List Nat)) : sortK (ps.map toIs) = (sortT ps).map toIs := (List.map_mergeSort (f := toIs) (s := leI) (r := leN) fun a _ b _ => (leI_ints a b).symm).symm
/-- the set of given lists, told as sorted tuples -/
theorem set_sorted {ks gs : List (List Nat)} (hn : gs.Nodup) (hm : ∀ x, x ∈ gs ↔ x ∈ ks) : (sortK (ddK (ks.map toIs))).map tI = (sortT gs).map tD := by
  have p : (ddK (ks.map toIs)).Perm (gs.map toIs) := by
    refine (List.perm_ext_iff_of_nodup (ddK_nodup _) ?_).mpr fun k => ?_
    · exact List.pairwise_map.mpr (hn.imp fun h e => h (ints_inj e))
    · rw [mem_ddK, List.mem_map, List.mem_map]
      exact ⟨fun ⟨x, hx, e⟩ => ⟨x, (hm x).mpr hx, e⟩, fun ⟨x, hx, e⟩ => ⟨x, (hm x).mp hx, e⟩⟩
  rw [sortK_perm p, sortK_ints, List.map_map]
  apply List.map_congr_left
  intro q _
  exact tI_ints q
/-- the results of a row, ascending -/
def resR (r : List (Option Nat)) : List Nat := sortN (r.filterMap id)
theorem results_ok (r : List (Option Nat)) : Ok (m__results [rD r]) (fun z os => z = tD (resR r) ∧ os = [none]) := by
  refine ok_def (ρ0 := [some (rD r), none]) (by rfl) ?_
  unfold mb__results
  refine ok_ret (ok_call (ok_cons (ok_lst (ok_callL (ok_cons (ok_lst (ok_lc (ok_seqD (ok_var (d := rD r) rfl ⟨_, rfl, ?_⟩)))))))))
  refine (comp_filter (enc := oD) (fun e => e.isSome) oD (l := r) fun e he => ?_).mono ?_
  · refine ⟨_, rfl, ?_⟩
    refine ok_test (ok_var (d := oD e) rfl (ok_c ⟨e.isSome, ?_, rfl, ?_⟩))
    · cases e <;> rfl
    · cases e with
      | none => exact L2.iteF rfl
      | some i => exact L2.iteT (ok_var (d := oD (some i)) rfl ⟨rfl, rfl⟩)
  · rintro ys ρ ⟨rfl, rfl⟩
    have e : (r.filter fun e => e.isSome).map oD = (r.filterMap id).map nD := by
      induction r with
      | nil => rfl
      | cons x r ih => cases x <;> simp_all [oD]
    rw [e]
    refine ok_nil ⟨_, sort_nums _, ok_nil ⟨_, gTupleOf_ok, ?_⟩⟩
    exact defK_rt rfl ⟨rfl, rfl⟩
theorem okKey_tD {q : List Nat} (h : q ≠ []) : okKey (tD q) = true := by
  unfold okKey
  have : keyI (tD q) = some (toIs q) := by rw [← tI_ints]; exact intsOf_ints _
  rw [this]
  cases q with
  | nil => exact absurd rfl h
  | cons a q => rfl
theorem keys_tD (ps : List (List Nat)) : (ps.map tD).filterMap keyI = ps.map toIs := by
  rw [List.filterMap_map]
  have : (keyI ∘ tD) = fun q => some (toIs q) := by
    funext q
    show keyI (tD q) = _
    rw [← tI_ints]
    exact intsOf_ints _
  rw [this, List.filterMap_eq_map']
theorem parts_of_ok {v : List Nat} {c : Nat} {t : Tb} (hv : Vw v c) (hs : Sound v c t) {gs : List (List Nat)} (hn : gs.Nodup) (hm : ∀ x, x ∈ gs ↔ x ∈ t.map resR) : Ok (m_parts_of [tD v, tabD t]) (fun z os => z = .tuple ((sortT gs).map tD) ∧ os = [none, none]) := by
  refine ok_def (ρ0 := [some (tD v), some (tabD t), none]) (by rfl) ?_
  unfold mb_parts_of
  refine ok_seq (ok_drop (ok_callD (ok_cons (ok_var (d := tD v) rfl (ok_cons (ok_var (d := tabD t) rfl (ok_nil ⟨_, rfl, ?_⟩)))))))
  refine (need_sound_ok hv hs).mono ?_
  rintro z os ⟨rfl, rfl⟩
  refine then_nx ?_
  refine ok_at (ρ' := [some (tD v), some (tabD t), none]) rfl ?_
  refine ok_ret (ok_call (ok_cons (ok_lst ?_)))
  have hne : ∀ r ∈ t, resR r ≠ [] := fun r hr e => by
    obtain ⟨s, hst, rfl⟩ := List.getElem_of_mem hr
    have hsl : s < v.length := by rw [← hs.tab.1]; exact hst
    have h1 := hs.stay s hsl
    have hc := vw_getD hv hsl
    have hw : v.getD s 0 < t[s].length := by rw [(hs.tab.2 _ (List.getElem_mem hst)).1]; exact hc
    rw [cell_at hst hw] at h1
    have : s ∈ t[s].filterMap id := List.mem_filterMap.mpr ⟨some s, by rw [← h1]; exact List.getElem_mem hw, rfl⟩
    have h2 := (sortN_perm (t[s].filterMap id)).mem_iff.mpr this
    have e : sortN (t[s].filterMap id) = [] := e
    rw [e] at h2
    cases h2
  show Ok (mSortSet (mSeqD (mVar 1)) (gN 2) mYes (mCallD m__results [none] (mCons (mVar 2) mNil)) [2] _) _
  unfold mSortSet
  refine ok_bind (ok_seqD (ok_var (d := tabD t) rfl ⟨_, rfl, ?_⟩))
  rw [if_pos (by rw [List.length_map, hs.tab.1]; have := hv.2.1; omega)]
  refine ok_bind (ok_bind (ok_noE ?_))
  refine (comp_map (enc := rD) (fun r => tD (resR r)) (l := t) fun r hr => ?_).mono ?_
  · refine ⟨_, rfl, ?_⟩
    unfold mKey
    refine ok_bind (ok_callD (ok_cons (ok_var (d := rD r) rfl (ok_nil ⟨_, rfl, ?_⟩))))
    refine (results_ok r).mono ?_
    rintro z os ⟨rfl, rfl⟩
    rw [if_pos (okKey_tD (hne r hr))]
    exact ⟨rfl, rfl⟩
  · rintro ys ρ ⟨rfl, rfl⟩
    have e : (t.map fun r => tD (resR r)) = (t.map resR).map tD := by rw [List.map_map]; rfl
    rw [e]
    refine Ok.mono (P := fun a ρ => a = (t.map resR).map tD ∧ ρ = restE [some (tD v), some (tabD t), none] (wipeE [some (tD v), some (tabD t), none] [2]) [2]) ⟨rfl, rfl⟩ ?_
    rintro a ρ ⟨rfl, rfl⟩
    rw [keys_tD, set_sorted hn hm]
    refine Ok.mono (P := fun a ρ => a = (sortT gs).map tD ∧ ρ = restE [some (tD v), some (tabD t), none] (wipeE [some (tD v), some (tabD t), none] [2]) [2]) ⟨rfl, rfl⟩ ?_
    rintro a ρ ⟨rfl, rfl⟩
    exact ok_nil ⟨_, gTupleOf_ok, defK_rt rfl ⟨rfl, rfl⟩⟩
end Pf
namespace Pf
open PySem MW
abbrev Cl := Nat × Nat × Nat
/-- cells: each once, and with each the ones ahead of it in its row and in its column -/
structure Bl (cs : List Cl) : Prop where
  nd : cs.Nodup
  few : cs.length ≤ 9
  row : ∀ x ∈ cs, ∀ r, r ≤ x.2.1 → (x.1, r, x.2.2) ∈ cs
  col : ∀ x ∈ cs, ∀ q, q ≤ x.2.2 → (x.1, x.2.1, q) ∈ cs
  rect : ∀ x ∈ cs, ∀ y ∈ cs, x.1 = y.1 → (x.1, x.2.1, y.2.2) ∈ cs
theorem Bl.perm {cs ds : List Cl} (h : Bl cs) (p : ds.Perm cs) : Bl ds := ⟨p.nodup_iff.mpr h.nd, by rw [p.length_eq]; exact h.few, fun x hx r hr => p.mem_iff.mpr (h.row x (p.mem_iff.mp hx) r hr), fun x hx q hq => p.mem_iff.mpr (h.col x (p.mem_iff.mp hx) q hq), fun x hx y hy e => p.mem_iff.mpr (h.rect x (p.mem_iff.mp hx) y (p.mem_iff.mp hy) e)⟩
def blk (b h w : Nat) : List Cl := (List.range h).flatMap fun r => (List.range w).map fun c => (b, r, c)
theorem mem_blk {b h w : Nat} {x : Cl} : x ∈ blk b h w ↔ x.1 = b ∧ x.2.1 < h ∧ x.2.2 < w := by
  unfold blk
  rw [List.mem_flatMap]
  constructor
  · rintro ⟨r, hr, hx⟩
    obtain ⟨c, hc, rfl⟩ := List.mem_map.mp hx
    exact ⟨rfl, List.mem_range.mp hr, List.mem_range.mp hc⟩
  · rintro ⟨rfl, h1, h2⟩
    exact ⟨x.2.1, List.mem_range.mpr h1, List.mem_map.mpr ⟨x.2.2, List.mem_range.mpr h2, rfl⟩⟩
theorem blk_len (b h w : Nat) : (blk b h w).length = h * w := by
  unfold blk
  rw [List.length_flatMap]
  induction h with
  | zero => simp
  | succ h ih => rw [List.range_succ, List.map_append, List.sum_append, ih, Nat.succ_mul]; simp
theorem blk_succ (b h w : Nat) : blk b (h + 1) w = blk b h w ++ (List.range w).map fun c => (b, h, c) := by
  unfold blk
  rw [List.range_succ, List.flatMap_append]
  simp
theorem blk_nodup (b h w : Nat) : (blk b h w).Nodup := by
  induction h with
  | zero => exact List.nodup_nil
  | succ h ih =>
    rw [blk_succ]
    refine List.nodup_append.mpr ⟨ih, ?_, fun x hx y hy e => ?_⟩
    · exact List.pairwise_map.mpr ((List.nodup_range (n := w)).imp fun hne e => hne (by injection e with _ e; injection e))
    · obtain ⟨c, _, rfl⟩ := List.mem_map.mp hy
      have := (mem_blk.mp hx).2.1
      rw [e] at this
      exact Nat.lt_irrefl _ this
theorem Bl.more {cs : List Cl} (h : Bl cs) {b hh w : Nat} (hb : ∀ x ∈ cs, x.1 ≠ b) (few : cs.length + hh * w ≤ 9) : Bl (cs ++ blk b hh w) := by
  refine ⟨List.nodup_append.mpr ⟨h.nd, blk_nodup _ _ _, fun x hx y hy e => hb x hx (by rw [e]; exact (mem_blk.mp hy).1)⟩, by rw [List.length_append, blk_len]; exact few, fun x hx r hr => ?_, fun x hx q hq => ?_, fun x hx y hy e => ?_⟩
  · rcases List.mem_append.mp hx with z | z
    · exact List.mem_append_left _ (h.row x z r hr)
    · obtain ⟨e, h1, h2⟩ := mem_blk.mp z
      exact List.mem_append_right _ (mem_blk.mpr ⟨e, by show r < hh; omega, h2⟩)
  · rcases List.mem_append.mp hx with z | z
    · exact List.mem_append_left _ (h.col x z q hq)
    · obtain ⟨e, h1, h2⟩ := mem_blk.mp z
      exact List.mem_append_right _ (mem_blk.mpr ⟨e, h1, by show q < w; omega⟩)
  · rcases List.mem_append.mp hx with z | z <;> rcases List.mem_append.mp hy with z2 | z2
    · exact List.mem_append_left _ (h.rect x z y z2 e)
    · exact absurd (e.trans (mem_blk.mp z2).1) (hb x z)
    · exact absurd (e.symm.trans (mem_blk.mp z).1) (hb y z2)
    · exact List.mem_append_right _ (mem_blk.mpr ⟨(mem_blk.mp z).1, (mem_blk.mp z).2.1, (mem_blk.mp z2).2.2⟩)
end Pf
namespace Pf
open PySem MW
theorem nodup_len : ∀ {a b : List Nat}, a.Nodup → (∀ x ∈ a, x ∈ b) → a.length ≤ b.length
  | [], b, _, _ => Nat.zero_le _
  | x :: a, b, hn, h => by
    have hx := h x List.mem_cons_self
    have hn := List.nodup_cons.mp hn
    have ih := nodup_len (a := a) (b := b.erase x) hn.2 fun y hy => (List.mem_erase_of_ne (fun e => hn.1 (by rw [← e]; exact hy))).mpr (h y (List.mem_cons_of_mem _ hy))
    rw [List.length_erase_of_mem hx] at ih
    have := List.length_pos_of_mem hx
    rw [List.length_cons]
    omega
end Pf
namespace Pf
open PySem MW
def Er {α : Type} (o : Out α) (c : Str) (PE : Ev → Prop) : Prop := match o with
  | .err c' ρ => c' = c ∧ PE ρ
  | _ => False
theorem Er.mono {α : Type} {o : Out α} {c : Str} {P Q : Ev → Prop} (h : Er o c P) (k : ∀ ρ, P ρ → Q ρ) : Er o c Q := by
  cases o with
  | err c' ρ => exact ⟨h.1, k ρ h.2⟩
  | ok a ρ => exact h
  | bad => exact h
theorem Er.eq {α : Type} {o : Out α} {c : Str} {P : Ev → Prop} (h : Er o c P) : ∃ ρ, o = .err c ρ ∧ P ρ := by
  cases o with
  | err c' ρ => exact ⟨ρ, by rw [h.1], h.2⟩
  | ok a ρ => exact h.elim
  | bad => exact h.elim
section
variable {α β : Type} {o : Out α} {c : Str} {PE : Ev → Prop} {ρ : Ev}
theorem er_bind {f : α → Ev → Out β} (h : Er o c PE) : Er (o.bind f) c PE := by
  cases o with
  | err c' ρ => exact h
  | ok a ρ => exact h.elim
  | bad => exact h.elim
theorem er_then {f : α → Ev → Out β} (h : Ok o fun a ρ => Er (f a ρ) c PE) : Er (o.bind f) c PE := by
  cases o with
  | ok a ρ => exact h
  | err c' ρ => exact h.elim
  | bad => exact h.elim
theorem er_seq {m n : Ev → Out Fl} (h : Er (m ρ) c PE) : Er (mSeq m n ρ) c PE := er_bind h
theorem er_seq2 {m n : Ev → Out Fl} (h : Ok (m ρ) fun fl ρ1 => fl = .nx ∧ Er (n ρ1) c PE) : Er (mSeq m n ρ) c PE := er_then (h.mono fun fl ρ1 ⟨e, k⟩ => by subst e; exact k)
theorem er_ret {m : Ev → Out D} (h : Er (m ρ) c PE) : Er (mRet m ρ) c PE := er_bind h
theorem er_ifY {mt : Ev → Out Bool} {n1 n2 : Ev → Out Fl} (h : Ok (mt ρ) fun b ρ1 => b = true ∧ Er (n1 ρ1) c PE) : Er (mIfS mt n1 n2 ρ) c PE := er_then (h.mono fun b ρ1 ⟨e, k⟩ => by subst e; exact k)
theorem er_callD {f : List D → Out D} {ks : List (Option Nat)} {ms : Ev → Out (List D)} (h : Ok (ms ρ) fun ds ρ1 => ∃ as, resolve ρ1 ks ds = some as ∧ Er (f as) c fun os => PE (wback ks os ρ1)) : Er (mCallD f ks ms ρ) c PE := er_then (h.mono fun ds ρ1 ⟨as, e, k⟩ => er_then (ok_of e (by
  obtain ⟨os, e2, k2⟩ := k.eq
  show Er (match f as with | .ok d os => Out.ok d (wback ks os ρ1) | .err c os => .err c (wback ks os ρ1) | .bad => .bad) c PE
  rw [e2]; exact ⟨rfl, k2⟩)))
theorem er_def {S : Sg} {n : Nat} {mb : Ev → Out Fl} {ds : List D} (h : Er (mb (ds.map some ++ List.replicate (n - ds.length) none)) c fun ρ => chk S (outs S ρ) = true ∧ PE (outs S ρ)) : Er (mDef S n mb ds) c PE := by
  obtain ⟨ρ1, e, k1, k2⟩ := h.eq
  unfold mDef
  rw [e]
  show Er (if chk S (outs S ρ1) = true then Out.err c (outs S ρ1) else .bad) c PE
  rw [if_pos k1]
  exact ⟨rfl, k2⟩
end
def wholeB : D → Bool
  | .int _ => true
  | _ => false
def belowB (n : Int) : D → Bool
  | .int i => decide (0 ≤ i) && decide (i < n)
  | _ => false
theorem whole_any (d : D) : Ok (m_is_whole [d]) (fun z os => z = .bool (wholeB d) ∧ os = [none]) := by
  cases d with
  | bool b => exact ⟨rfl, rfl⟩
  | int i => exact ⟨rfl, rfl⟩
  | none => exact ⟨rfl, rfl⟩
  | str x => exact ⟨rfl, rfl⟩
  | list x => exact ⟨rfl, rfl⟩
  | tuple x => exact ⟨rfl, rfl⟩
  | dict x => exact ⟨rfl, rfl⟩
theorem belowB_no {d : D} {n : Int} (h : wholeB d = false) : belowB n d = false := by
  cases d <;> first | rfl | cases h
theorem belowB_int {i n : Int} : belowB n (.int i) = (decide (0 ≤ i) && decide (i < n)) := rfl
theorem wholeB_int {d : D} (h : wholeB d = true) : ∃ i, d = .int i := by
  cases d <;> first | exact ⟨_, rfl⟩ | cases h
theorem below_any (d : D) (n : Int) : Ok (m_is_below [d, .int n]) (fun z os => z = .bool (belowB n d) ∧ os = [none, none]) := by
  refine ok_def (by rfl) ?_
  unfold mb_is_below
  walk_at "mx"
  refine (whole_any d).mono ?_
  rintro z os ⟨rfl, rfl⟩
  refine ⟨_, rfl, ?_⟩
  cases e : wholeB d with
  | false =>
    refine L2.iteF ?_
    rw [belowB_no e]
    exact defK_rt rfl ⟨rfl, rfl⟩
  | true =>
    obtain ⟨i, rfl⟩ := wholeB_int e
    refine L2.iteT ?_
    walk_at "mx"
    rw [belowB_int]
    cases e1 : decide ((0 : Int) ≤ i) with
    | false =>
      refine L2.iteF ?_
      exact defK_rt rfl ⟨rfl, rfl⟩
    | true =>
      refine L2.iteT ?_
      walk_at "mx"
      exact defK_rt rfl ⟨by simp, rfl⟩
end Pf
namespace Pf
open PySem MW
theorem textFrom_le : ∀ (ts : List Str) (k : Nat) (acc : Str), (textFrom k acc ts).length ≤ acc.length + piled ts
  | [], k, acc => Nat.le_add_right _ _
  | t :: r, k, acc => by
    have ih := textFrom_le r (k + 1) (acc ++ (if k > 0 then ", " else "" : String) ++ t)
    have e : (acc ++ (if k > 0 then ", " else "" : String) ++ t).length = acc.length + (if k > 0 then 2 else 0) + t.length := by
      rw [strLen_append, strLen_append]
      split <;> rfl
    rw [e] at ih
    rw [piled_cons]
    show (textFrom (k + 1) _ r).length ≤ _
    have : (if k > 0 then 2 else 0 : Nat) ≤ 2 := by split <;> omega
    omega
theorem rb_list {ds : List D} {L k n : Nat} (h : ∀ d ∈ ds, Rb L k d) (hn : ds.length ≤ n) : Rb (n * (L + 2) + 3) (k + 1) (.list ds) := by
  obtain ⟨a, b, c⟩ := all_of h
  refine ⟨by simpa [PyData.showable] using a, by simpa [PyData.hasDict] using b, by simp only [PyData.depth]; omega, ?_⟩
  simp only [PyData.shown]
  have h2 := shown_all fun d hd => (h d hd).2.2.2
  have h3 : ds.length * (L + 2) ≤ n * (L + 2) := Nat.mul_le_mul_right _ hn
  have h4 := textFrom_le (PyData.shownAll ds) 0 "["
  unfold listText
  rw [strLen_append]
  have h5 : ((("[" : String) : Str)).length = 1 := by decide +kernel
  have h6 : ((("]" : String) : Str)).length = 1 := by decide +kernel
  omega
theorem cut_len' (ds : List D) (lo hi : Option Int) : (cutD ds lo hi).length ≤ ds.length := by
  unfold cutD
  rw [List.length_take, List.length_drop]
  omega
theorem gAddL_ok {xs ys : List D} (h : xs.length + ys.length ≤ 16777216) : gAdd (.list xs) (.list ys) = some (.list (xs ++ ys)) := if_pos h
structure Mix (L k n : Nat) (xs : List D) : Prop where
  len : xs.length ≤ n
  all : ∀ d ∈ xs, Rb L k d
theorem Mix.app {L k n m : Nat} {xs ys : List D} (h : Mix L k n xs) (g : Mix L k m ys) : Mix L k (n + m) (xs ++ ys) :=
  ⟨by rw [List.length_append]; have := h.len; have := g.len; omega, fun d hd => (List.mem_append.mp hd).elim (h.all d) (g.all d)⟩
theorem cut_mem {ds : List D} {lo hi : Option Int} {d : D} (h : d ∈ cutD ds lo hi) : d ∈ ds := List.mem_of_mem_drop (List.mem_of_mem_take h)
theorem Mix.cut {L k n : Nat} {xs : List D} (h : Mix L k n xs) (lo hi : Option Int) : Mix L k n (cutD xs lo hi) :=
  ⟨Nat.le_trans (cut_len' xs lo hi) h.len, fun d hd => h.all d (cut_mem hd)⟩
theorem Mix.tup {L k n : Nat} {xs : List D} (h : Mix L k n xs) : Rb (n * (L + 2) + 3) (k + 1) (.tuple xs) := rb_tuple h.all h.len
theorem Mix.lst {L k n : Nat} {xs : List D} (h : Mix L k n xs) : Rb (n * (L + 2) + 3) (k + 1) (.list xs) := rb_list h.all h.len
theorem Mix.up {L k n L' k' n' : Nat} {xs : List D} (h : Mix L k n xs) (h1 : L ≤ L') (h2 : k ≤ k') (h3 : n ≤ n') : Mix L' k' n' xs := ⟨Nat.le_trans h.len h3, fun d hd => (h.all d hd).up h1 h2⟩
end Pf
namespace Pf
open PySem MW
abbrev Fd := List (Nat × List Nat)
def lkF (f : Fd) (n : Nat) : Option (List Nat) := (f.find? fun p => p.1 == n).map (·.2)
theorem lkF_none {f : Fd} {n : Nat} : lkF f n = none ↔ n ∉ f.map (·.1) := by
  unfold lkF
  rw [Option.map_eq_none_iff, List.find?_eq_none]
  simp only [List.mem_map, beq_iff_eq]
  constructor
  · rintro h ⟨p, hp, e⟩
    exact h p hp e
  · intro h p hp e
    exact h ⟨p, hp, e⟩
theorem lkF_some {f : Fd} {n : Nat} {tr : List Nat} (h : lkF f n = some tr) : (n, tr) ∈ f := by
  unfold lkF at h
  obtain ⟨p, h1, h2⟩ := Option.map_eq_some_iff.mp h
  have hm := List.mem_of_find?_eq_some h1
  have he := List.find?_some h1
  have : p.1 = n := by simpa using he
  rw [← this, ← h2]
  exact hm
/-- a way from state to state -/
inductive Way (near : List (List Nat)) (s : Nat) : List Nat → Nat → Prop
  | one : Way near s [s] s
  | more {tr : List Nat} {a b : Nat} : Way near s tr a → b ∈ near.getD a [] → Way near s (tr ++ [b]) b
theorem Way.ne {near : List (List Nat)} {s o : Nat} {tr : List Nat} : Way near s tr o → tr ≠ []
  | .one => by simp
  | .more _ _ => by simp
theorem Way.last {near : List (List Nat)} {s o : Nat} {tr : List Nat} : Way near s tr o → tr.getLast? = some o
  | .one => rfl
  | .more _ _ => by simp
/-- reached by ways -/
def Conn (near : List (List Nat)) (s o : Nat) : Prop := ∃ tr, Way near s tr o
structure BInv (near : List (List Nat)) (s : Nat) (f : Fd) : Prop where
  nd : (f.map (·.1)).Nodup
  lt : ∀ p ∈ f, p.1 < near.length
  st : (s, [s]) ∈ f
  wy : ∀ p ∈ f, Way near s p.2 p.1 ∧ p.2.length ≤ f.length
theorem BInv.len {near : List (List Nat)} {s : Nat} {f : Fd} (h : BInv near s f) : f.length ≤ near.length := by
  have := nodup_len (a := f.map (·.1)) (b := List.range near.length) h.nd fun x hx => by
    obtain ⟨p, hp, rfl⟩ := List.mem_map.mp hx
    exact List.mem_range.mpr (h.lt p hp)
  simpa using this
theorem BInv.add {near : List (List Nat)} {s a b : Nat} {f : Fd} {tr : List Nat} (h : BInv near s f) (ha : (a, tr) ∈ f) (hb : b ∈ near.getD a []) (hlt : b < near.length) (hn : b ∉ f.map (·.1)) : BInv near s (f ++ [(b, tr ++ [b])]) := by
  obtain ⟨w, hl⟩ := h.wy _ ha
  refine ⟨?_, fun p hp => ?_, List.mem_append_left _ h.st, fun p hp => ?_⟩
  · rw [List.map_append, List.nodup_append]
    refine ⟨h.nd, by simp, fun x hx y hy e => ?_⟩
    have : y = b := by simpa using hy
    subst this
    subst e
    exact hn hx
  · rcases List.mem_append.mp hp with z | z
    · exact h.lt p z
    · have : p = (b, tr ++ [b]) := by simpa using z
      subst this
      exact hlt
  · rw [List.length_append]
    rcases List.mem_append.mp hp with z | z
    · exact ⟨(h.wy p z).1, Nat.le_trans (h.wy p z).2 (by simp)⟩
    · have : p = (b, tr ++ [b]) := by simpa using z
      subst this
      exact ⟨w.more hb, by rw [List.length_append]; simp at hl ⊢; omega⟩
/-- what the search ends with: all states that ways lead to, each once, with a way -/
structure BEnd (near : List (List Nat)) (s : Nat) (f : Fd) : Prop extends BInv near s f where
  all : ∀ o, Conn near s o ↔ o ∈ f.map (·.1)
end Pf
namespace Pf
open PySem MW
/-- what a table links -/
def LT (t : Tb) (s o : Nat) : Prop := ∃ w, cell t s w = some o
end Pf
namespace Pf
open PySem MW
open Classical in
/-- all states that ways lead to, ascending -/
noncomputable def cmp (near : List (List Nat)) (s : Nat) : List Nat := (List.range near.length).filter fun o => decide (Conn near s o)
/-- a way whose ends are different and show the same -/
def Tw (near : List (List Nat)) (v : List Nat) (tr : List Nat) : Prop := ∃ s o, Way near s tr o ∧ s < v.length ∧ o < v.length ∧ s ≠ o ∧ v.getD s 0 = v.getD o 0
end Pf
namespace Pf
open PySem MW
theorem all_boolF {α : Type} (p : α → Bool) (l : List α) : gAll [.list (l.map fun x => .bool (p x))] = some (.bool (l.all p)) := by
  have e : boolsD (l.map fun x => PyData.bool (p x)) = some (l.map p) := by
    unfold boolsD
    induction l with
    | nil => rfl
    | cons x l ih => rw [List.map_cons, List.mapM_cons, ih]; rfl
  show ((boolsD (l.map fun x => PyData.bool (p x))).map fun ns => PyData.bool (ns.all id)) = _
  rw [e]
  simp
theorem below_nat (s n : Nat) : Ok (m_is_below [nD s, nD n]) (fun z os => z = .bool (decide (s < n)) ∧ os = [none, none]) := by
  refine ok_def (by rfl) ?_
  unfold mb_is_below
  walk_at "mx"
  refine whole_ok _ _ fun b hb => ?_
  have := hb s rfl
  subst this
  refine ⟨_, rfl, L2.iteT ?_⟩
  walk_at "mx"
  rw [decide_eq_true (show (0 : Int) ≤ (s : Int) by omega)]
  refine L2.iteT ?_
  walk_at "mx"
  refine defK_rt rfl ⟨?_, rfl⟩
  congr 1
  exact decide_eq_decide.mpr (by omega)
theorem eqvN : ∀ a b : List Nat, PyData.eqvAll (a.map nD) (b.map nD) = (a == b)
  | [], [] => rfl
  | [], _ :: _ => rfl
  | _ :: _, [] => rfl
  | x :: a, y :: b => by
    show (((x : Int) == (y : Int)) && PyData.eqvAll (a.map nD) (b.map nD)) = _
    rw [eqvN a b]
    have : ((x : Int) == (y : Int)) = (x == y) := by
      by_cases e : x = y
      · subst e; simp
      · rw [beq_eq_false_iff_ne.mpr (show (x : Int) ≠ y by omega), beq_eq_false_iff_ne.mpr e]
    rw [this]
    rfl
theorem eqvT : ∀ a b : List (List Nat), PyData.eqvAll (a.map tD) (b.map tD) = (a == b)
  | [], [] => rfl
  | [], _ :: _ => rfl
  | _ :: _, [] => rfl
  | x :: a, y :: b => by
    show (PyData.eqvAll (x.map nD) (y.map nD) && PyData.eqvAll (a.map tD) (b.map tD)) = _
    rw [eqvT a b, eqvN x y]
    rfl
theorem shapedT (gs : List (List Nat)) : SeqAt.shaped (.list (gs.map tD)) = true := by
  have c1 : ∀ l : List (List Nat), PyData.canLayAll0 (l.map tD) = true := by
    intro l
    induction l with
    | nil => rfl
    | cons q l ih => rw [List.map_cons]; simp [PyData.canLayAll0, PyData.canLay0, canLay_nD, ih]
  have c2 : ∀ l : List (List Nat), PyData.depthAll (l.map tD) ≤ 1 := by
    intro l
    induction l with
    | nil => exact Nat.zero_le _
    | cons q l ih => rw [List.map_cons]; simp only [PyData.depthAll, PyData.depth, depth_nD]; omega
  have := c2 gs
  simp [SeqAt.shaped, PyData.canLay0, PyData.depth, c1]
  omega
theorem bEq_lN (a b : List Nat) : bEq (.list (a.map nD)) (.list (b.map nD)) = some (a == b) := by
  unfold bEq
  rw [if_pos ⟨shaped_lD a, shaped_lD b⟩]
  exact congrArg some (eqvN a b)
theorem bEq_lT (a b : List (List Nat)) : bEq (.list (a.map tD)) (.list (b.map tD)) = some (a == b) := by
  unfold bEq
  rw [if_pos ⟨shapedT a, shapedT b⟩]
  exact congrArg some (eqvT a b)
theorem dd_le : ∀ l : List Int, (dd l).length ≤ l.length
  | [] => Nat.le_refl _
  | n :: l => by
    unfold dd
    have := dd_le l
    split
    · rw [List.length_cons]; omega
    · rw [List.length_cons, List.length_cons]; omega
theorem dd_len_iff : ∀ l : List Int, (dd l).length = l.length ↔ l.Nodup
  | [] => by simp [dd]
  | n :: l => by
    have ih := dd_len_iff l
    have le := dd_le l
    unfold dd
    split
    · next h =>
      rw [List.length_cons, List.nodup_cons]
      exact ⟨fun z => by omega, fun z => absurd (mem_dd.mp h) z.1⟩
    · next h =>
      rw [List.length_cons, List.length_cons, List.nodup_cons, ← ih]
      exact ⟨fun z => ⟨fun m => h (mem_dd.mpr m), by omega⟩, fun z => by omega⟩
theorem nodup_ints {α : Type} (f : α → Nat) (l : List α) : (l.map fun x => (f x : Int)).Nodup ↔ (l.map f).Nodup := by
  have : (l.map fun x => (f x : Int)) = (l.map f).map Int.ofNat := by rw [List.map_map]; rfl
  rw [this]
  constructor
  · intro h
    exact (List.pairwise_map.mp h).imp fun hne e => hne (by rw [e])
  · intro h
    exact List.pairwise_map.mpr (h.imp fun hne e => hne (by injection e))
section
variable {mi mi1 : Ev → Out (List D)} {g g1 : Ev → D → Option Ev} {me mk mv : Ev → Out D} {vs vs1 : List Nat} {ρ : Ev} {P : D → Ev → Prop}
theorem ok_lenSet {α : Type} (enc : α → D) (f : α → Nat) (l : List α) (hl : l.length ≤ 4000)
    (h : Ok (mi ρ) fun items ρ1 => items = l.map enc ∧ (∀ x ∈ l, ∃ ρ2, g (wipeE ρ1 vs) (enc x) = some ρ2 ∧ Ok (me ρ2) fun z ρ3 => z = nD (f x) ∧ wipeE ρ3 vs = wipeE ρ1 vs) ∧ P (nD (dd (l.map fun x => (f x : Int))).length) (restE ρ1 (wipeE ρ1 vs) vs)) : Ok (mLenSet mi g mYes me vs ρ) P := by
  unfold mLenSet
  refine ok_bind (h.mono fun items ρ1 ⟨e, k, hp⟩ => ?_)
  subst e
  rw [if_pos (by rw [List.length_map]; exact hl)]
  refine ok_bind (ok_bind (ok_noE ((comp_map (enc := enc) (fun x => nD (f x)) (l := l) fun x hx => ?_).mono ?_)))
  · obtain ⟨ρ2, e, z⟩ := k x hx
    refine ⟨ρ2, e, ?_⟩
    unfold mInt
    exact ok_bind (z.mono fun z ρ3 ⟨e1, e2⟩ => by subst e1; exact ⟨rfl, e2⟩)
  · rintro ys ρ ⟨rfl, rfl⟩
    have e : (l.map fun x => nD (f x)).filterMap numI = l.map fun x => (f x : Int) := by
      rw [List.filterMap_map]
      exact congrFun List.filterMap_eq_map' l
    show P (.int ((dd ((l.map fun x => nD (f x)).filterMap numI)).length : Nat)) _
    rw [e]
    exact hp
def prs (L : List (Nat × D)) : List D := L.map fun p => .tuple [nD p.1, p.2]
/-- the dict that the pairs make, one after the other -/
def dictN (L : List (Nat × D)) : D := .dict (encD (dictOf (prs L)))
def lastOf (L : List (Nat × D)) (n : Nat) : Option D := L.foldl (fun a p => if p.1 = n then some p.2 else a) none
def lk (ps : List (L2.Key × D)) (n : Nat) : Option D := (ps.find? fun p => decide (p.1 = .inl (n : Int))).map (·.2)
theorem findD_enc (ps : List (L2.Key × D)) (n : Nat) : findD (encD ps) (.inl (n : Int)) = lk ps n := by
  unfold findD encD lk
  rw [List.find?_map, Option.map_map]
  have : ((fun p : D × D => decide (keyOfD p.1 = some (.inl (n : Int)))) ∘ fun p : L2.Key × D => (keyD p.1, p.2)) = fun p => decide (p.1 = .inl (n : Int)) := by
    funext p
    show decide (keyOfD (keyD p.1) = some (.inl (n : Int))) = _
    rw [keyOfD_keyD]
    exact decide_eq_decide.mpr ⟨fun h => Option.some.inj h, fun h => congrArg some h⟩
  rw [this]
  rfl
theorem lk_put (ps : List (L2.Key × D)) (k n : Nat) (d : D) : lk (putD ps (.inl (k : Int)) d) n = if k = n then some d else lk ps n := by
  unfold putD
  split
  · next h =>
    unfold lk
    rw [List.find?_map, Option.map_map]
    have : ((fun p : L2.Key × D => decide (p.1 = .inl (n : Int))) ∘ fun p : L2.Key × D => if p.1 = .inl (k : Int) then (p.1, d) else p) = fun p => decide (p.1 = .inl (n : Int)) := by
      funext p
      show decide ((if p.1 = .inl (k : Int) then (p.1, d) else p).1 = .inl (n : Int)) = _
      split <;> rfl
    rw [this]
    by_cases e : k = n
    · subst e
      rw [if_pos rfl]
      obtain ⟨x, hx, hk⟩ := List.any_eq_true.mp h
      cases e2 : ps.find? fun p => decide (p.1 = .inl (k : Int)) with
      | none => exact absurd hk (by simpa using List.find?_eq_none.mp e2 x hx)
      | some p =>
        have := List.find?_some e2
        have hp : p.1 = .inl (k : Int) := of_decide_eq_true this
        show some (if p.1 = .inl (k : Int) then (p.1, d) else p).2 = some d
        rw [if_pos hp]
    · rw [if_neg e]
      cases e2 : ps.find? fun p => decide (p.1 = .inl (n : Int)) with
      | none => rfl
      | some p =>
        have := List.find?_some e2
        have hp : p.1 = .inl (n : Int) := of_decide_eq_true this
        show some (if p.1 = .inl (k : Int) then (p.1, d) else p).2 = some p.2
        rw [if_neg (by rw [hp]; intro z; injection z with z; omega)]
  · next h =>
    unfold lk
    rw [List.find?_append]
    by_cases e : k = n
    · subst e
      rw [if_pos rfl]
      have : (ps.find? fun p => decide (p.1 = .inl (k : Int))) = none := List.find?_eq_none.mpr fun x hx z => h (List.any_eq_true.mpr ⟨x, hx, z⟩)
      rw [this]
      simp
    · rw [if_neg e]
      have : ([(Sum.inl (k : Int), d)] : List (L2.Key × D)).find? (fun p => decide (p.1 = .inl (n : Int))) = none := by
        rw [List.find?_cons_of_neg]
        · rfl
        · intro z
          have z := of_decide_eq_true z
          injection z with z
          omega
      rw [this, Option.or_none]
theorem lk_dict (L : List (Nat × D)) (n : Nat) : lk (dictOf (prs L)) n = lastOf L n := by
  have : ∀ (L : List (Nat × D)) (ps : List (L2.Key × D)), lk ((prs L).foldl (fun ps y => match y with
      | .tuple [k, d] => (keyOfD k).elim ps fun k => putD ps k d
      | _ => ps) ps) n = L.foldl (fun a p => if p.1 = n then some p.2 else a) (lk ps n) := by
    intro L
    induction L with
    | nil => intro ps; rfl
    | cons p L ih =>
      intro ps
      show lk ((prs L).foldl _ (putD ps (.inl (p.1 : Int)) p.2)) n = L.foldl _ (if p.1 = n then some p.2 else lk ps n)
      rw [← lk_put]
      exact ih _
  exact this L []
theorem lastOf_no {n : Nat} : ∀ {L : List (Nat × D)} {a : Option D}, (∀ d, (n, d) ∉ L) → L.foldl (fun a p => if p.1 = n then some p.2 else a) a = a
  | [], _, _ => rfl
  | p :: L, a, h => by
    rw [List.foldl_cons, if_neg (fun e => h p.2 (by rw [← e]; exact List.mem_cons_self))]
    exact lastOf_no fun d hd => h d (List.mem_cons_of_mem _ hd)
theorem lastOf_none {L : List (Nat × D)} {n : Nat} (h : ∀ d, (n, d) ∉ L) : lastOf L n = none := lastOf_no h
theorem lastOf_in {n : Nat} {d : D} : ∀ {L : List (Nat × D)} {a : Option D}, (∀ e, (n, e) ∈ L → e = d) → (n, d) ∈ L → L.foldl (fun a p => if p.1 = n then some p.2 else a) a = some d
  | [], _, _, h => by cases h
  | p :: L, a, hu, h => by
    rw [List.foldl_cons]
    by_cases hm : (n, d) ∈ L
    · exact lastOf_in (fun e he => hu e (List.mem_cons_of_mem _ he)) hm
    · have e : p = (n, d) := by
        rcases List.mem_cons.mp h with z | z
        · exact z.symm
        · exact absurd z hm
      subst e
      rw [if_pos rfl]
      exact lastOf_no fun e he => hm (by rw [← hu e (List.mem_cons_of_mem _ he)]; exact he)
theorem lastOf_some {L : List (Nat × D)} {n : Nat} {d : D} (hu : ∀ e, (n, e) ∈ L → e = d) (h : (n, d) ∈ L) : lastOf L n = some d := lastOf_in hu h
theorem gDGet_N (L : List (Nat × D)) (n : Nat) : gDGet (dictN L) (nD n) = lastOf L n := by
  show (if realD (encD (dictOf (prs L))) = true then findD (encD (dictOf (prs L))) (.inl (n : Int)) else none) = _
  rw [if_pos (realD_enc _)]
  rw [findD_enc, lk_dict]
theorem ok_dget1 {mo : Ev → Out D} (h : Ok (mo ρ) fun d ρ1 => ∃ L, d = dictN L ∧ Ok (mk ρ1) fun k ρ2 => ∃ n : Nat, k = nD n ∧ P ((lastOf L n).getD .none) ρ2) : Ok (mDGet1 mo mk ρ) P := by
  unfold mDGet1
  refine ok_bind (h.mono fun d ρ1 ⟨L, e, k⟩ => ?_)
  subst e
  show Ok (if realD (encD (dictOf (prs L))) = true then (mk ρ1).bind fun k ρ2 => Out.of ((keyOfD k).map fun kk => (findD (encD (dictOf (prs L))) kk).getD .none) ρ2 else .bad) P
  rw [if_pos (realD_enc _)]
  refine ok_bind (k.mono fun k ρ2 ⟨n, e, hp⟩ => ?_)
  subst e
  refine ok_of (a := (lastOf L n).getD .none) ?_ hp
  show some ((findD (encD (dictOf (prs L))) (.inl (n : Int))).getD .none) = _
  rw [findD_enc, lk_dict]
theorem ok_dc1 {α : Type} (enc : α → D) (kf : α → Nat) (vf : α → D) (l : List α)
    (h : Ok (mi ρ) fun items ρ1 => items = l.map enc ∧ (∀ x ∈ l, ∃ ρ2, g (wipeE ρ1 vs) (enc x) = some ρ2 ∧ Ok (mk ρ2) fun k ρ3 => k = nD (kf x) ∧ Ok (mv ρ3) fun d ρ4 => d = vf x ∧ wipeE ρ4 vs = wipeE ρ1 vs) ∧ P (dictN (l.map fun x => (kf x, vf x))) (restE ρ1 (wipeE ρ1 vs) vs)) : Ok (mDc1 mi g mYes mk mv vs ρ) P := by
  unfold mDc1
  refine ok_bind (h.mono fun items ρ1 ⟨e, k, hp⟩ => ?_)
  subst e
  refine ok_bind (ok_bind (ok_noE ((comp_map (enc := enc) (fun x => .tuple [nD (kf x), vf x]) (l := l) fun x hx => ?_).mono ?_)))
  · obtain ⟨ρ2, e, z⟩ := k x hx
    refine ⟨ρ2, e, ?_⟩
    unfold mPair
    refine ok_bind (z.mono fun k ρ3 ⟨e1, z⟩ => ?_)
    subst e1
    rw [if_pos (show (keyOfD (nD (kf x))).isSome = true from rfl)]
    exact ok_bind (z.mono fun d ρ4 ⟨e1, e2⟩ => by subst e1; exact ⟨rfl, e2⟩)
  · rintro ys ρ ⟨rfl, rfl⟩
    have e : (l.map fun x => PyData.tuple [nD (kf x), vf x]) = prs (l.map fun x => (kf x, vf x)) := by unfold prs; rw [List.map_map]; rfl
    show P (.dict (encD (dictOf (l.map fun x => PyData.tuple [nD (kf x), vf x])))) _
    rw [e]
    exact hp
theorem ok_dc2 {α β : Type} (enc : α → D) (enc1 : β → D) (il : α → List β) (kf : α → β → Nat) (vf : α → β → D) (l : List α) (hl : l.length ≤ 4096)
    (h : Ok (mi ρ) fun items ρ1 => items = l.map enc ∧ (∀ x ∈ l, (il x).length ≤ 4096 ∧ ∃ ρ2, g (wipeE ρ1 vs) (enc x) = some ρ2 ∧ Ok (mi1 ρ2) fun its ρ3 => its = (il x).map enc1 ∧ (∀ y ∈ il x, ∃ ρ4, g1 (wipeE ρ3 vs1) (enc1 y) = some ρ4 ∧ Ok (mk ρ4) fun k ρ5 => k = nD (kf x y) ∧ Ok (mv ρ5) fun d ρ6 => d = vf x y ∧ wipeE ρ6 vs1 = wipeE ρ3 vs1) ∧ wipeE (restE ρ3 (wipeE ρ3 vs1) vs1) vs = wipeE ρ1 vs) ∧
      P (dictN (l.flatMap fun x => (il x).map fun y => (kf x y, vf x y))) (restE ρ1 (wipeE ρ1 vs) vs)) : Ok (mDc2 mi g mYes mi1 g1 mYes mk mv vs vs1 ρ) P := by
  unfold mDc2
  refine ok_bind (h.mono fun items ρ1 ⟨e, k, hp⟩ => ?_)
  subst e
  rw [if_pos (by rw [List.length_map]; exact hl)]
  refine ok_bind (ok_bind (ok_noE ((comp_map (enc := enc) (fun x => .list ((il x).map fun y => .tuple [nD (kf x y), vf x y])) (l := l) fun x hx => ?_).mono ?_)))
  · obtain ⟨hi, ρ2, e, z⟩ := k x hx
    refine ⟨ρ2, e, ?_⟩
    unfold mIn
    refine ok_bind (z.mono fun its ρ3 ⟨e1, z, e3⟩ => ?_)
    subst e1
    rw [if_pos (by rw [List.length_map]; exact hi)]
    refine ok_bind (ok_bind (ok_noE ((comp_map (enc := enc1) (fun y => .tuple [nD (kf x y), vf x y]) (l := il x) fun y hy => ?_).mono ?_)))
    · obtain ⟨ρ4, e, z⟩ := z y hy
      refine ⟨ρ4, e, ?_⟩
      unfold mPair
      refine ok_bind (z.mono fun k ρ5 ⟨e1, z⟩ => ?_)
      subst e1
      rw [if_pos (show (keyOfD (nD (kf x y))).isSome = true from rfl)]
      exact ok_bind (z.mono fun d ρ6 ⟨e1, e2⟩ => by subst e1; exact ⟨rfl, e2⟩)
    · rintro ys ρ ⟨rfl, rfl⟩
      show Ok (if _ then _ else _) _
      rw [if_pos (by rw [List.length_map]; exact hi)]
      exact ⟨rfl, e3⟩
  · rintro ys ρ ⟨rfl, rfl⟩
    have e : flatL (l.map fun x => PyData.list ((il x).map fun y => PyData.tuple [nD (kf x y), vf x y])) = prs (l.flatMap fun x => (il x).map fun y => (kf x y, vf x y)) := by
      unfold flatL prs
      rw [List.flatMap_map, List.map_flatMap]
      congr 1
      funext x
      rw [List.map_map]
      rfl
    show P (.dict (encD (dictOf (flatL (l.map fun x => PyData.list ((il x).map fun y => PyData.tuple [nD (kf x y), vf x y])))))) _
    rw [e]
    exact hp
theorem ok_slL {ma : Ev → Out D} {ml mh : Ev → Out (Option Int)} (h : Ok (ma ρ) fun d ρ1 => Ok (ml ρ1) fun lo ρ2 => Ok (mh ρ2) fun hi ρ3 => ∃ ds, d = .list ds ∧ P (.list (cutD ds lo hi)) ρ3) : Ok (mSl ma ml mh ρ) P := ok_bind (h.mono fun d ρ1 k => ok_bind (k.mono fun lo ρ2 k => ok_bind (k.mono fun hi ρ3 ⟨ds, e, k3⟩ => by rw [e]; exact k3)))
end
end Pf
namespace Pf
open PySem MW
structure IsPart (v : List Nat) (q : List Nat) : Prop where
  ne : q ≠ []
  lt : ∀ s ∈ q, s < v.length
  asc : q.Pairwise (· < ·)
  dif : ∀ s ∈ q, ∀ t ∈ q, v.getD s 0 = v.getD t 0 → s = t
theorem nodup_of_map {α β : Type} (f : α → β) : ∀ {l : List α}, (l.map f).Nodup → ∀ s ∈ l, ∀ t ∈ l, f s = f t → s = t
  | [], _, s, hs, _, _, _ => by cases hs
  | a :: l, h, s, hs, t, ht, e => by
    rw [List.map_cons, List.nodup_cons] at h
    rcases List.mem_cons.mp hs with z | z <;> rcases List.mem_cons.mp ht with y | y
    · rw [z, y]
    · exact absurd (List.mem_map.mpr ⟨t, y, by rw [← e, z]⟩) h.1
    · exact absurd (List.mem_map.mpr ⟨s, z, by rw [e, y]⟩) h.1
    · exact nodup_of_map f h.2 s z t y e
theorem nodup_map_of {α β : Type} (f : α → β) : ∀ {l : List α}, l.Nodup → (∀ s ∈ l, ∀ t ∈ l, f s = f t → s = t) → (l.map f).Nodup
  | [], _, _ => List.nodup_nil
  | a :: l, h, k => by
    rw [List.map_cons, List.nodup_cons]
    have h := List.nodup_cons.mp h
    refine ⟨fun z => ?_, nodup_map_of f h.2 fun s hs t ht => k s (List.mem_cons_of_mem _ hs) t (List.mem_cons_of_mem _ ht)⟩
    obtain ⟨x, hx, e⟩ := List.mem_map.mp z
    have := k x (List.mem_cons_of_mem _ hx) a List.mem_cons_self e
    rw [this] at hx
    exact h.1 hx
theorem isPart_iff {v q : List Nat} (hne : q ≠ []) (hlt : ∀ s ∈ q, s < v.length) : (q = sortN q ∧ (q.map fun s => v.getD s 0).Nodup) ↔ IsPart v q := by
  constructor
  · rintro ⟨h1, h2⟩
    have dif := nodup_of_map (fun s => v.getD s 0) h2
    refine ⟨hne, hlt, ?_, dif⟩
    have le : q.Pairwise (· ≤ ·) := by rw [h1]; exact sortN_sorted q
    have nd : q.Nodup := by
      have := List.pairwise_map.mp h2
      exact this.imp fun hx e => hx (by rw [e])
    exact (le.and nd).imp fun ⟨a, b⟩ => Nat.lt_of_le_of_ne a b
  · intro h
    refine ⟨(sortN_of (h.asc.imp fun z => Nat.le_of_lt z)).symm, nodup_map_of _ (h.asc.imp fun z => Nat.ne_of_lt z) h.dif⟩
theorem is_part_ok {v q : List Nat} (hv : v.length ≤ 1000) (hq : q.length ≤ 4000) : Ok (m__is_part [tD v, tD q]) (fun z os => ∃ b, z = .bool b ∧ (b = true ↔ IsPart v q) ∧ os = [none, none]) := by
  refine ok_def (ρ0 := [some (tD v), some (tD q), none]) (by rfl) ?_
  unfold mb__is_part
  refine ok_seq (ok_ifS (ok_orB (ok_notB (ok_tru (ok_isD (ok_var (d := tD q) rfl ⟨_, rfl, L2.iteF ?_⟩))))))
  refine ok_test (ok_call (ok_cons (ok_var (d := tD q) rfl (ok_nil ⟨_, gLenT_ok, ok_c ⟨_, bEq_int _ _, ?_⟩⟩))))
  rw [List.length_map]
  cases hq0 : ((q.length : Int) == 0) with
  | true =>
    have hq0 : q = [] := List.length_eq_zero_iff.mp (by have := beq_iff_eq.mp hq0; omega)
    refine L2.iteT (ok_ret (ok_c (then_rt (defK_rt rfl ⟨false, rfl, ?_, rfl⟩))))
    exact ⟨fun z => (by cases z), fun z => absurd hq0 z.ne⟩
  | false =>
    have hne : q ≠ [] := fun z => by rw [z] at hq0; cases hq0
    refine L2.iteF (ok_next (then_nx ?_))
    refine ok_seq (ok_ifS (ok_notB (ok_tru (ok_call (ok_cons (ok_lst (ok_lc (ok_seqD (ok_var (d := tD q) rfl ⟨_, rfl, ?_⟩)))))))))
    refine (comp_map (enc := nD) (fun s => .bool (decide (s < v.length))) (l := q) fun s hs => ?_).mono ?_
    · refine ⟨_, rfl, ?_⟩
      refine ok_callD (ok_cons (ok_var (d := nD s) rfl (ok_cons (ok_call (ok_cons (ok_var (d := tD v) rfl (ok_nil ⟨_, gLenT_ok, ok_nil ⟨_, rfl, ?_⟩⟩)))))))
      show Ok (m_is_below [nD s, nD (v.map nD).length]) _
      rw [List.length_map]
      refine (below_nat s v.length).mono ?_
      rintro z os ⟨rfl, rfl⟩
      exact ⟨rfl, rfl⟩
    rintro ys ρ ⟨rfl, rfl⟩
    refine ok_nil ⟨_, all_boolF _ _, _, rfl, ?_⟩
    cases hall : q.all fun s => decide (s < v.length) with
    | false =>
      refine L2.iteT (ok_ret (ok_c (then_rt (defK_rt rfl ⟨false, rfl, ?_, rfl⟩))))
      refine ⟨fun z => (by cases z), fun z => ?_⟩
      rw [List.all_eq_true.mpr fun s hs => decide_eq_true (z.lt s hs)] at hall
      cases hall
    | true =>
      have hlt : ∀ s ∈ q, s < v.length := fun s hs => of_decide_eq_true (List.all_eq_true.mp hall s hs)
      refine L2.iteF (ok_next (then_nx ?_))
      refine ok_at (ρ' := [some (tD v), some (tD q), none]) rfl ?_
      refine ok_ret (ok_andV (ok_bin (ok_lst (ok_callL (ok_cons (ok_var (d := tD q) rfl (ok_nil ⟨q.map nD, rfl, ok_lst (ok_callL (ok_cons (ok_var (d := tD q) rfl (ok_nil ⟨_, sort_numsT q, ?_⟩))))⟩)))))))
      refine ⟨.bool (q == sortN q), by show (bEq _ _).map PyData.bool = _; rw [bEq_lN]; rfl, _, rfl, ?_⟩
      cases hs : (q == sortN q) with
      | false =>
        refine L2.iteF (defK_rt rfl ⟨false, rfl, ?_, rfl⟩)
        refine ⟨fun z => (by cases z), fun z => ?_⟩
        have := ((isPart_iff hne hlt).mpr z).1
        rw [beq_iff_eq.mpr this] at hs
        cases hs
      | true =>
        refine L2.iteT (ok_bin (ok_lenSet nD (fun s => v.getD s 0) q hq (ok_seqD (ok_var (d := tD q) rfl ⟨_, rfl, rfl, fun s hs => ?_, ?_⟩))))
        · refine ⟨_, rfl, ok_bin (ok_var (d := tD v) rfl (ok_var (d := nD s) rfl ⟨nD (v.getD s 0), ?_, rfl, rfl⟩))⟩
          rw [getD_eq (hlt s hs)]
          exact gIxT_ok (nD_at (hlt s hs))
        · refine ok_call (ok_cons (ok_var (d := tD q) rfl (ok_nil ⟨_, gLenT_ok, ?_⟩)))
          rw [List.length_map]
          refine ⟨.bool ((dd (q.map fun s => ((v.getD s 0 : Nat) : Int))).length == q.length), by show (bEq (nD _) (nD _)).map PyData.bool = _; rw [bEq_nD]; rfl, defK_rt rfl ⟨_, rfl, ?_, rfl⟩⟩
          rw [← isPart_iff hne hlt, beq_iff_eq, ← nodup_ints, ← dd_len_iff, List.length_map]
          exact ⟨fun z => ⟨beq_iff_eq.mp hs, z⟩, fun z => z.2⟩
theorem pn_iff {v : List Nat} {js : List (List Nat)} : ((∀ q ∈ js, IsPart v q) ∧ js.flatten.Perm (List.range v.length)) ↔ Pn v v.length js :=
  ⟨fun ⟨h, p⟩ => ⟨p, fun q hq => (h q hq).ne, fun q hq => (h q hq).asc, fun q hq => (h q hq).dif⟩,
   fun h => ⟨fun q hq => ⟨h.ne q hq, fun s hs => h.lt hq hs, h.asc q hq, h.dif q hq⟩, h.all⟩⟩
theorem sort_range_iff (q : List Nat) (n : Nat) : sortN q = List.range n ↔ q.Perm (List.range n) :=
  ⟨fun h => by rw [← h]; exact (sortN_perm q).symm, fun h => sortN_range n h⟩
theorem is_parts_ok {v : List Nat} {c : Nat} {js : List (List Nat)} (hv : Vw v c) (hj : js.length ≤ 100) (hq : ∀ q ∈ js, q.length ≤ 100) : Ok (m_is_parts [tD v, .tuple (js.map tD)]) (fun z os => ∃ b, z = .bool b ∧ (b = true ↔ Pn v v.length js ∧ sortT js = js) ∧ os = [none, none]) := by
  have h9 := hv.2.1
  refine ok_def (ρ0 := [some (tD v), some (.tuple (js.map tD)), none, none, none]) (by rfl) ?_
  unfold mb_is_parts
  refine ok_seq (ok_drop (ok_callD (ok_cons (ok_var (d := tD v) rfl (ok_nil ⟨_, rfl, ?_⟩)))))
  refine (need_view hv).mono ?_
  rintro z os rfl
  refine then_nx ?_
  refine ok_at (ρ' := [some (tD v), some (.tuple (js.map tD)), none, none, none]) rfl ?_
  have pick : ∀ q, ∃ b, q ∈ js → (b = true ↔ IsPart v q) ∧ Ok (m__is_part [tD v, tD q]) (fun z os => z = .bool b ∧ os = [none, none]) := fun q => by
    by_cases hm : q ∈ js
    · obtain ⟨z, os, e, b, rfl, hb, rfl⟩ := (is_part_ok (v := v) (q := q) (by omega) (by have := hq q hm; omega)).eq
      refine ⟨b, fun _ => ⟨hb, ?_⟩⟩
      rw [e]
      exact ⟨rfl, rfl⟩
    · exact ⟨true, fun z => absurd z hm⟩
  let B : List Nat → Bool := fun q => (pick q).choose
  have hB : ∀ q ∈ js, (B q = true ↔ IsPart v q) ∧ Ok (m__is_part [tD v, tD q]) (fun z os => z = .bool (B q) ∧ os = [none, none]) := fun q hm => (pick q).choose_spec hm
  refine ok_seq (ok_ifS (ok_orB (ok_notB (ok_tru (ok_isD (ok_var (d := .tuple (js.map tD)) rfl ⟨_, rfl, L2.iteF ?_⟩))))))
  refine ok_notB (ok_tru (ok_call (ok_cons (ok_lst (ok_lc (ok_seqD (ok_var (d := .tuple (js.map tD)) rfl ⟨_, rfl, ?_⟩)))))))
  refine (comp_map (enc := tD) (fun q => .bool (B q)) (l := js) fun q hm => ?_).mono ?_
  · refine ⟨_, rfl, ?_⟩
    refine ok_callD (ok_cons (ok_var (d := tD v) rfl (ok_cons (ok_var (d := tD q) rfl (ok_nil ⟨_, rfl, ?_⟩)))))
    refine (hB q hm).2.mono ?_
    rintro z os ⟨rfl, rfl⟩
    exact ⟨rfl, rfl⟩
  rintro ys ρ ⟨rfl, rfl⟩
  refine ok_nil ⟨_, all_boolF _ _, _, rfl, ?_⟩
  cases hall : js.all B with
  | false =>
    refine L2.iteT (ok_ret (ok_c (then_rt (defK_rt rfl ⟨false, rfl, ?_, rfl⟩))))
    refine ⟨fun z => (by cases z), fun z => ?_⟩
    rw [List.all_eq_true.mpr fun q hm => (hB q hm).1.mpr ((pn_iff.mpr z.1).1 q hm)] at hall
    cases hall
  | true =>
    have hip : ∀ q ∈ js, IsPart v q := fun q hm => (hB q hm).1.mp (List.all_eq_true.mp hall q hm)
    refine L2.iteF (ok_next (then_nx ?_))
    refine ok_at (ρ' := [some (tD v), some (.tuple (js.map tD)), none, none, none]) rfl ?_
    refine ok_seq (ok_set (ok_lst (ok_lc2 (ok_seqD (ok_var (d := .tuple (js.map tD)) rfl ⟨_, rfl, ?_, ?_⟩)))))
    · rw [List.length_map]; omega
    refine comp2_inv (fun k ys ρ => ρ = [some (tD v), some (.tuple (js.map tD)), none, none, none] ∧ ys = (js.take k).flatten.map nD) 0 [] ⟨rfl, rfl⟩ ?_ ?_
    · rintro i d ys ρ hi0 ⟨rfl, rfl⟩
      obtain ⟨hi, rfl⟩ := at_map hi0
      have hm : js[i] ∈ js := List.getElem_mem hi
      refine ⟨_, rfl, ok_yes (L2.iteT ?_)⟩
      refine ok_seqD (ok_var (d := tD js[i]) rfl ⟨_, rfl, by rw [List.length_map]; have := hq _ hm; omega, ?_⟩)
      refine (comp_map (enc := nD) nD (l := js[i]) fun s hs => ?_).mono ?_
      · exact ⟨_, rfl, ok_var (d := nD s) rfl ⟨rfl, rfl⟩⟩
      · rintro zs ρ ⟨rfl, rfl⟩
        refine ⟨rfl, ?_⟩
        have e : js.take (i + 1) = js.take i ++ [js[i]] := by rw [List.take_add_one, List.getElem?_eq_getElem hi]; rfl
        rw [Nat.zero_add, Nat.zero_add, e, List.flatten_append, List.map_append]
        simp
    · rintro ys ρ ⟨rfl, e⟩
      rw [List.nil_append, List.length_map, Nat.zero_add, List.take_length] at e
      subst e
      refine then_nx ?_
      refine ok_at (ρ' := [some (tD v), some (.tuple (js.map tD)), some (.list (js.flatten.map nD)), none, none]) rfl ?_
      refine ok_ret (ok_andV (ok_bin (ok_lst (ok_callL (ok_cons (ok_var (d := .tuple (js.map tD)) rfl (ok_nil ⟨js.map tD, rfl, ok_lst (ok_callL (ok_cons (ok_var (d := .tuple (js.map tD)) rfl (ok_nil ⟨_, sort_tuples0 js, ?_⟩))))⟩)))))))
      refine ⟨.bool (js == sortT js), by show (bEq _ _).map PyData.bool = _; rw [bEq_lT]; rfl, _, rfl, ?_⟩
      cases hs : (js == sortT js) with
      | false =>
        refine L2.iteF (defK_rt rfl ⟨false, rfl, ?_, rfl⟩)
        refine ⟨fun z => (by cases z), fun z => ?_⟩
        rw [beq_iff_eq.mpr z.2.symm] at hs
        cases hs
      | true =>
        refine L2.iteT (ok_bin (ok_lst (ok_callL (ok_cons (ok_var (d := .list (js.flatten.map nD)) rfl (ok_nil ⟨_, sort_nums _, ?_⟩))))))
        refine ok_lst (ok_listRg (ok_call (ok_cons (ok_var (d := tD v) rfl (ok_nil ⟨_, gLenT_ok, _, rfl, ?_, ?_⟩)))))
        · rw [List.length_map]; omega
        rw [List.length_map, Int.toNat_natCast, rangeD_nD]
        refine ⟨.bool (sortN js.flatten == List.range v.length), by show (bEq _ _).map PyData.bool = _; rw [bEq_lN]; rfl, defK_rt rfl ⟨_, rfl, ?_, rfl⟩⟩
        rw [beq_iff_eq, sort_range_iff]
        exact ⟨fun z => ⟨pn_iff.mp ⟨hip, z⟩, (beq_iff_eq.mp hs).symm⟩, fun z => z.1.all⟩
end Pf
namespace Pf
open PySem MW
/-- the part of a state -/
def prt (js : List (List Nat)) (s : Nat) : List Nat := (js.find? fun q => q.contains s).getD []
theorem prt_is {v : List Nat} {n : Nat} {js : List (List Nat)} (h : Pn v n js) {s : Nat} (hs : s < n) : prt js s ∈ js ∧ s ∈ prt js s := by
  obtain ⟨q, hq, hsq⟩ := h.has hs
  unfold prt
  cases e : js.find? fun q => q.contains s with
  | none => exact absurd (List.contains_iff_mem.mpr hsq) (by simpa using List.find?_eq_none.mp e q hq)
  | some r =>
    have h1 := List.find?_some e
    exact ⟨List.mem_of_find?_eq_some e, List.contains_iff_mem.mp h1⟩
def rowQ (v : List Nat) (c : Nat) (q : List Nat) : List (Option Nat) := (List.range c).map fun w => q.find? fun s => v.getD s 0 == w
theorem row_of_ok {v : List Nat} {c : Nat} {q : List Nat} (hv : Vw v c) (hlt : ∀ s ∈ q, s < v.length) (dif : ∀ s ∈ q, ∀ t ∈ q, v.getD s 0 = v.getD t 0 → s = t) : Ok (m__row_of [tD v, tD q]) (fun z os => z = rD (rowQ v c q) ∧ os = [none, none]) := by
  have hc := hv.2.2.1
  have h9 := hv.2.1
  refine ok_def (ρ0 := [some (tD v), some (tD q), none, none, none]) (by rfl) ?_
  unfold mb__row_of
  refine ok_seq (ok_set (ok_dc1 nD (fun s => v.getD s 0) nD q (ok_seqD (ok_var (d := tD q) rfl ⟨_, rfl, rfl, fun s hs => ?_, ?_⟩))))
  · refine ⟨_, rfl, ok_bin (ok_var (d := tD v) rfl (ok_var (d := nD s) rfl ⟨nD (v.getD s 0), ?_, rfl, ok_var (d := nD s) rfl ⟨rfl, rfl⟩⟩))⟩
    rw [getD_eq (hlt s hs)]
    exact gIxT_ok (nD_at (hlt s hs))
  refine then_nx ?_
  generalize hL : (q.map fun s => (v.getD s 0, nD s)) = L
  refine ok_at (ρ' := [some (tD v), some (tD q), some (dictN L), none, none]) rfl ?_
  refine ok_ret (ok_call (ok_cons (ok_lst (ok_lc (ok_range1 (ok_cons (ok_callD (ok_cons (ok_var (d := tD v) rfl (ok_nil ⟨_, rfl, ?_⟩))))))))))
  refine (count_ok hv).mono ?_
  rintro z os ⟨rfl, rfl⟩
  refine ok_nil ⟨_, rfl, by omega, ?_⟩
  rw [Int.toNat_natCast, rangeD_nD]
  refine (comp_map (enc := nD) (fun w => oD (q.find? fun s => v.getD s 0 == w)) (l := List.range c) fun w hw => ?_).mono ?_
  · refine ⟨_, rfl, ok_dget1 (ok_var (d := dictN L) rfl ⟨L, rfl, ok_var (d := nD w) rfl ⟨w, rfl, ?_, rfl⟩⟩)⟩
    subst hL
    cases e : q.find? fun s => v.getD s 0 == w with
    | none =>
      rw [lastOf_none fun d hd => ?_]
      · rfl
      · obtain ⟨s, hs, e2⟩ := List.mem_map.mp hd
        injection e2 with e2 _
        exact absurd (beq_iff_eq.mpr e2) (List.find?_eq_none.mp e s hs)
    | some s =>
      have hs := List.mem_of_find?_eq_some e
      have hv1 := List.find?_some e
      have hv2 : v.getD s 0 = w := beq_iff_eq.mp hv1
      rw [lastOf_some (d := nD s) (fun d hd => ?_) (List.mem_map.mpr ⟨s, hs, by rw [hv2]⟩)]
      · rfl
      · obtain ⟨t, ht, e2⟩ := List.mem_map.mp hd
        injection e2 with e2 e3
        rw [← e3, dif t ht s hs (by rw [e2, hv2])]
  · rintro ys ρ ⟨rfl, rfl⟩
    refine ok_nil ⟨_, gTupleOf_ok, defK_rt rfl ⟨?_, rfl⟩⟩
    unfold rD rowQ
    rw [List.map_map]
    rfl
def tabQ (v : List Nat) (c : Nat) (js : List (List Nat)) : Tb := (List.range v.length).map fun s => rowQ v c (prt js s)
theorem tabQ_is {v : List Nat} {c : Nat} {js : List (List Nat)} (h : Pn v v.length js) : TabOf v c js (tabQ v c js) := by
  have tab : Tab v.length c (tabQ v c js) := by
    refine ⟨by simp [tabQ], fun r hr => ?_⟩
    obtain ⟨s, hs, rfl⟩ := List.mem_map.mp hr
    have hs := List.mem_range.mp hs
    refine ⟨by simp [rowQ], fun e he i ei => ?_⟩
    obtain ⟨w, hw, rfl⟩ := List.mem_map.mp he
    exact h.lt (prt_is h hs).1 (List.mem_of_find?_eq_some ei)
  refine ⟨tab, fun s w hs hw o => ?_⟩
  have e : cell (tabQ v c js) s w = (prt js s).find? fun x => v.getD x 0 == w := by
    have h1 : s < (tabQ v c js).length := by rw [tab.1]; exact hs
    have h2 : w < (tabQ v c js)[s].length := by rw [(tab.2 _ (List.getElem_mem h1)).1]; exact hw
    rw [cell_at h1 h2]
    simp [tabQ, rowQ]
  rw [e]
  obtain ⟨p1, p2⟩ := prt_is h hs
  constructor
  · intro z
    have hv1 := List.find?_some z
    exact ⟨_, p1, p2, List.mem_of_find?_eq_some z, beq_iff_eq.mp hv1⟩
  · rintro ⟨q, hq, hsq, hoq, ho⟩
    have := h.uni hq p1 hsq p2
    subst this
    cases e2 : (prt js s).find? fun x => v.getD x 0 == w with
    | none => exact absurd (beq_iff_eq.mpr ho) (List.find?_eq_none.mp e2 o hoq)
    | some x =>
      have hv1 := List.find?_some e2
      rw [h.dif _ hq x (List.mem_of_find?_eq_some e2) o hoq ((beq_iff_eq.mp hv1).trans ho.symm)]
theorem table_of_ok {v : List Nat} {c : Nat} {js : List (List Nat)} (hv : Vw v c) (h : Pn v v.length js) (hs : sortT js = js) : Ok (m_table_of [tD v, .tuple (js.map tD)]) (fun z os => z = tabD (tabQ v c js) ∧ os = [none, none]) := by
  have h9 := hv.2.1
  have hj := h.count
  refine ok_def (ρ0 := [some (tD v), some (.tuple (js.map tD)), none, none, none]) (by rfl) ?_
  unfold mb_table_of
  refine ok_seq (ok_ifS (ok_notB (ok_tru (ok_callD (ok_cons (ok_var (d := tD v) rfl (ok_cons (ok_var (d := .tuple (js.map tD)) rfl (ok_nil ⟨_, rfl, ?_⟩)))))))))
  refine (is_parts_ok hv (by omega) fun q hq => by have := h.len hq; omega).mono ?_
  rintro z os ⟨b, rfl, hb, rfl⟩
  have hb := hb.mpr ⟨h, hs⟩
  subst hb
  refine ⟨true, rfl, L2.iteF (ok_next (then_nx ?_))⟩
  refine ok_at (ρ' := [some (tD v), some (.tuple (js.map tD)), none, none, none]) rfl ?_
  refine ok_seq (ok_set (ok_dc2 tD nD (fun q => q) (fun _ s => s) (fun q _ => tD q) js (by omega) (ok_seqD (ok_var (d := .tuple (js.map tD)) rfl ⟨_, rfl, rfl, fun q hq => ?_, ?_⟩))))
  · refine ⟨by have := h.len hq; omega, _, rfl, ok_seqD (ok_var (d := tD q) rfl ⟨_, rfl, rfl, fun s hs => ?_, rfl⟩)⟩
    exact ⟨_, rfl, ok_var (d := nD s) rfl ⟨rfl, ok_var (d := tD q) rfl ⟨rfl, rfl⟩⟩⟩
  refine then_nx ?_
  generalize hL : (js.flatMap fun q => q.map fun s => (s, tD q)) = L
  refine ok_at (ρ' := [some (tD v), some (.tuple (js.map tD)), some (dictN L), none, none]) rfl ?_
  refine ok_ret (ok_call (ok_cons (ok_lst (ok_lc (ok_range1 (ok_cons (ok_call (ok_cons (ok_var (d := tD v) rfl (ok_nil ⟨_, gLenT_ok, ok_nil ⟨_, rfl, ?_, ?_⟩⟩)))))))))) 
  · rw [List.length_map]; omega
  rw [List.length_map, Int.toNat_natCast, rangeD_nD]
  refine (comp_map (enc := nD) (fun s => rD (rowQ v c (prt js s))) (l := List.range v.length) fun s hs => ?_).mono ?_
  · have hs := List.mem_range.mp hs
    obtain ⟨p1, p2⟩ := prt_is h hs
    have hg : gDGet (dictN L) (nD s) = some (tD (prt js s)) := by
      rw [gDGet_N]
      subst hL
      refine lastOf_some (fun d hd => ?_) (List.mem_flatMap.mpr ⟨_, p1, List.mem_map.mpr ⟨s, p2, rfl⟩⟩)
      obtain ⟨q, hq, hd⟩ := List.mem_flatMap.mp hd
      obtain ⟨s', hs', e⟩ := List.mem_map.mp hd
      injection e with e1 e2
      subst e1
      rw [← e2, h.uni hq p1 hs' p2]
    refine ⟨_, rfl, ?_⟩
    refine ok_callD (ok_cons (ok_var (d := tD v) rfl (ok_cons (ok_bin (ok_var (d := dictN L) rfl (ok_var (d := nD s) rfl ⟨_, hg, ok_nil ⟨_, rfl, ?_⟩⟩))))))
    refine (row_of_ok hv (fun x hx => h.lt p1 hx) (h.dif _ p1)).mono ?_
    rintro z os ⟨rfl, rfl⟩
    exact ⟨rfl, rfl⟩
  · rintro ys ρ ⟨rfl, rfl⟩
    refine ok_nil ⟨_, gTupleOf_ok, defK_rt rfl ⟨?_, rfl⟩⟩
    unfold tabD tabQ
    rw [List.map_map]
    rfl
theorem mem_res {n c : Nat} {t : Tb} (ht : Tab n c t) {s x : Nat} (hs : s < t.length) : x ∈ resR t[s] ↔ ∃ w, w < c ∧ cell t s w = some x := by
  have hl := (ht.2 _ (List.getElem_mem hs)).1
  unfold resR
  rw [(sortN_perm _).mem_iff, List.mem_filterMap]
  constructor
  · rintro ⟨e, he, e2⟩
    obtain ⟨w, hw, rfl⟩ := List.getElem_of_mem he
    refine ⟨w, by omega, ?_⟩
    rw [cell_at hs hw]
    exact e2
  · rintro ⟨w, hw, e⟩
    have hw : w < t[s].length := by omega
    rw [cell_at hs hw] at e
    exact ⟨some x, by rw [← e]; exact List.getElem_mem hw, rfl⟩
section
variable {v : List Nat} {c : Nat} {t : Tb}
theorem res_self (hv : Vw v c) (h : Sound v c t) {s : Nat} (hs : s < t.length) : s ∈ resR t[s] := by
  have hsl : s < v.length := by rw [← h.tab.1]; exact hs
  exact (mem_res h.tab hs).mpr ⟨_, vw_getD hv hsl, h.stay s hsl⟩
theorem res_same (h : Sound v c t) {s x : Nat} (hs : s < t.length) (hx : x < t.length) (m : x ∈ resR t[s]) : t[x] = t[s] := by
  have hsl : s < v.length := by rw [← h.tab.1]; exact hs
  obtain ⟨w, hw, e⟩ := (mem_res h.tab hs).mp m
  have l1 := (h.tab.2 _ (List.getElem_mem hs)).1
  have l2 := (h.tab.2 _ (List.getElem_mem hx)).1
  refine List.ext_getElem (by rw [l1, l2]) fun y h1 h2 => ?_
  have := h.forget s w x hsl hw e y (by omega)
  rw [cell_at hx h1, cell_at hs h2] at this
  exact this
theorem sound_parts (hv : Vw v c) (h : Sound v c t) {gs : List (List Nat)} (nd : gs.Nodup) (mem : ∀ x, x ∈ gs ↔ x ∈ t.map resR) : Pn v v.length gs ∧ TabOf v c gs t := by
  have lt : t.length = v.length := h.tab.1
  have is : ∀ q ∈ gs, ∃ s, ∃ hs : s < t.length, q = resR t[s] := fun q hq => by
    obtain ⟨r, hr, e⟩ := List.mem_map.mp ((mem q).mp hq)
    obtain ⟨s, hs, rfl⟩ := List.getElem_of_mem hr
    exact ⟨s, hs, e.symm⟩
  have inr : ∀ s (hs : s < t.length), resR t[s] ∈ gs := fun s hs => (mem _).mpr (List.mem_map.mpr ⟨_, List.getElem_mem hs, rfl⟩)
  have small : ∀ s (hs : s < t.length) x, x ∈ resR t[s] → x < t.length := fun s hs x hx => by
    obtain ⟨w, _, e⟩ := (mem_res h.tab hs).mp hx
    rw [lt]; exact Tab.lt h.tab e
  have dif : ∀ s (hs : s < t.length) x y, x ∈ resR t[s] → y ∈ resR t[s] → v.getD x 0 = v.getD y 0 → x = y := fun s hs x y hx hy e => by
    obtain ⟨w, hw, e1⟩ := (mem_res h.tab hs).mp hx
    obtain ⟨w', hw', e2⟩ := (mem_res h.tab hs).mp hy
    have q1 := h.shown s w x (by omega) hw e1
    have q2 := h.shown s w' y (by omega) hw' e2
    have : w = w' := by omega
    subst this
    rw [e1] at e2
    exact Option.some.inj e2
  have ndr : ∀ s (hs : s < t.length), (resR t[s]).Nodup := fun s hs => by
    refine (sortN_perm _).nodup_iff.mpr ?_
    refine List.pairwise_filterMap.mpr (List.pairwise_iff_getElem.mpr fun i j hi hj hij b hb b' hb' e => ?_)
    have l1 := (h.tab.2 _ (List.getElem_mem hs)).1
    have h1 : t[s][i] = some b := hb
    have h2 : t[s][j] = some b' := hb'
    rw [← cell_at hs hi] at h1
    rw [← cell_at hs hj] at h2
    have q1 := h.shown s i b (by omega) (by omega) h1
    have q2 := h.shown s j b' (by omega) (by omega) h2
    rw [e] at q1
    omega
  have eqr : ∀ s (hs : s < t.length) x (hx : x < t.length), x ∈ resR t[s] → resR t[x] = resR t[s] := fun s hs x hx m => by rw [res_same h hs hx m]
  refine ⟨⟨?_, fun q hq => ?_, fun q hq => ?_, fun q hq s hs y hy e => ?_⟩, h.tab, fun s w hs hw o => ?_⟩
  · refine (List.perm_ext_iff_of_nodup ?_ List.nodup_range).mpr fun x => ?_
    · refine List.pairwise_flatten.mpr ⟨fun q hq => ?_, ?_⟩
      · obtain ⟨s, hs, rfl⟩ := is q hq
        exact ndr s hs
      · refine List.Pairwise.imp_of_mem ?_ nd
        intro p q hp hq hne x hx y hy e
        subst e
        obtain ⟨s, hs, rfl⟩ := is p hp
        obtain ⟨s', hs', rfl⟩ := is q hq
        have hxl := small s hs x hx
        exact hne ((eqr s hs x hxl hx).symm.trans (eqr s' hs' x hxl hy))
    · rw [List.mem_flatten, List.mem_range]
      constructor
      · rintro ⟨q, hq, hx⟩
        obtain ⟨s, hs, rfl⟩ := is q hq
        rw [← lt]; exact small s hs x hx
      · intro hx
        have hxt : x < t.length := by rw [lt]; exact hx
        exact ⟨_, inr x hxt, res_self hv h hxt⟩
  · obtain ⟨s, hs, rfl⟩ := is q hq
    intro z
    have := res_self hv h hs
    rw [z] at this
    cases this
  · obtain ⟨s, hs, rfl⟩ := is q hq
    have le : (resR t[s]).Pairwise (· ≤ ·) := sortN_sorted _
    exact (le.and (ndr s hs)).imp fun ⟨a, b⟩ => Nat.lt_of_le_of_ne a b
  · obtain ⟨s0, hs0, rfl⟩ := is q hq
    exact dif s0 hs0 s y hs hy e
  · have hst : s < t.length := by rw [lt]; exact hs
    constructor
    · intro e
      exact ⟨_, inr s hst, res_self hv h hst, (mem_res h.tab hst).mpr ⟨w, hw, e⟩, h.shown s w o hs hw e⟩
    · rintro ⟨q, hq, hsq, hoq, ho⟩
      obtain ⟨s0, hs0, rfl⟩ := is q hq
      rw [← eqr s0 hs0 s hst hsq] at hoq
      obtain ⟨w', hw', e⟩ := (mem_res h.tab hst).mp hoq
      have := h.shown s w' o hs hw' e
      rw [show w = w' by omega]
      exact e
end
def once (R : List (List Nat)) : List (List Nat) := ((List.range R.length).filter fun k => !(R.take k).contains (R.getD k [])).map fun k => R.getD k []
theorem once_nodup (R : List (List Nat)) : (once R).Nodup := by
  unfold once
  refine List.pairwise_map.mpr (List.Pairwise.imp_of_mem ?_ (List.Pairwise.filter _ (List.pairwise_lt_range (n := R.length))))
  intro a b ha hb hab e
  have hb2 := (List.mem_filter.mp hb).2
  have ha1 := List.mem_range.mp (List.mem_filter.mp ha).1
  have : (R.take b).contains (R.getD b []) = true := by
    rw [List.contains_iff_mem, ← e, show R.getD a [] = R[a] by simp [List.getD_eq_getElem?_getD, ha1]]
    exact List.mem_take_iff_getElem.mpr ⟨a, by omega, rfl⟩
  rw [this] at hb2
  cases hb2
theorem mem_once (R : List (List Nat)) (x : List Nat) : x ∈ once R ↔ x ∈ R := by
  unfold once
  rw [List.mem_map]
  constructor
  · rintro ⟨k, hk, rfl⟩
    have hk := List.mem_range.mp (List.mem_filter.mp hk).1
    rw [show R.getD k [] = R[k] by simp [List.getD_eq_getElem?_getD, hk]]
    exact List.getElem_mem hk
  · intro hx
    have hlt : R.findIdx (fun y => y == x) < R.length := List.findIdx_lt_length.mpr ⟨x, hx, by simp⟩
    have hat : R[R.findIdx fun y => y == x] = x := by have := List.findIdx_getElem (w := hlt); exact beq_iff_eq.mp this
    have e : R.getD (R.findIdx fun y => y == x) [] = x := by rw [← hat]; simp [List.getD_eq_getElem?_getD, hlt, hat]
    refine ⟨_, List.mem_filter.mpr ⟨List.mem_range.mpr hlt, ?_⟩, e⟩
    rw [e, Bool.not_eq_true']
    rw [Bool.eq_false_iff]
    intro z
    obtain ⟨i, hi, e2⟩ := List.mem_take_iff_getElem.mp (List.contains_iff_mem.mp z)
    have := List.not_of_lt_findIdx (p := fun y => y == x) (xs := R) (i := i) (by omega)
    rw [e2] at this
    simp at this
end Pf
namespace Pf
open PySem MW
/-- the first place of x -/
def plc (l : List (List Nat)) (x : List Nat) : Nat := l.findIdx fun y => y == x
/-- what several views show at a state -/
def tup (vs : List (List Nat)) (s : Nat) : List Nat := vs.map fun v => v.getD s 0
/-- the joined view -/
def jvOf (n : Nat) (vs : List (List Nat)) : List Nat := (List.range n).map fun s => plc (sortT (once ((List.range n).map (tup vs)))) (tup vs s)
end Pf
namespace Pf
open PySem MW
theorem lawParts2 : m__law_parts_v2 = m__law_parts := rfl
section
variable {v : List Nat} {c : Nat}
theorem tr {d : D} {ρ : Ev} : ρ = ρ ∧ True := ⟨rfl, trivial⟩
end
end Pf
namespace Pf
open PySem MW
theorem Pn.nodup {v : List Nat} {n : Nat} {ps : List (List Nat)} (h : Pn v n ps) : ps.Nodup := by
  have h1 : ps.flatten.Nodup := h.all.nodup_iff.mpr List.nodup_range
  have h2 := (List.pairwise_flatten.mp h1).2
  refine List.Pairwise.imp_of_mem ?_ h2
  intro a b ha hb hd e
  subst e
  obtain ⟨x, hx⟩ := List.exists_mem_of_length_pos (List.length_pos_iff.mpr (h.ne a ha))
  exact hd x hx x hx rfl
theorem parts_uniq {v : List Nat} {c : Nat} {js gs : List (List Nat)} {t : Tb} (hv : Vw v c) (hj : Pn v v.length js) (hg : Pn v v.length gs) (tj : TabOf v c js t) (tg : TabOf v c gs t) : ∀ q, q ∈ js ↔ q ∈ gs := by
  have one : ∀ {js gs : List (List Nat)}, Pn v v.length js → Pn v v.length gs → TabOf v c js t → TabOf v c gs t → ∀ q, q ∈ js → q ∈ gs := by
    intro js gs hj hg tj tg q hq
    obtain ⟨s, hs⟩ := List.exists_mem_of_length_pos (List.length_pos_iff.mpr (hj.ne q hq))
    have hsl := hj.lt hq hs
    obtain ⟨r, hr, hsr⟩ := hg.has hsl
    have same : ∀ o, o ∈ q ↔ o ∈ r := fun o => by
      constructor
      · intro ho
        have hol := hj.lt hq ho
        obtain ⟨r2, hr2, s2, o2, _⟩ := (tg.is s _ hsl (vw_getD hv hol) o).mp ((tj.is s _ hsl (vw_getD hv hol) o).mpr ⟨q, hq, hs, ho, rfl⟩)
        rw [hg.uni hr hr2 hsr s2]
        exact o2
      · intro ho
        have hol := hg.lt hr ho
        obtain ⟨q2, hq2, s2, o2, _⟩ := (tj.is s _ hsl (vw_getD hv hol) o).mp ((tg.is s _ hsl (vw_getD hv hol) o).mpr ⟨r, hr, hsr, ho, rfl⟩)
        rw [hj.uni hq hq2 hs s2]
        exact o2
    have : q = r := nums_unique ((List.perm_ext_iff_of_nodup ((hj.asc q hq).imp fun h => Nat.ne_of_lt h) ((hg.asc r hr).imp fun h => Nat.ne_of_lt h)).mpr same) ((hj.asc q hq).imp fun h => Nat.le_of_lt h) ((hg.asc r hr).imp fun h => Nat.le_of_lt h)
    rw [this]
    exact hr
  exact fun q => ⟨one hj hg tj tg q, one hg hj tg tj q⟩
/-- parts_of leads back -/
theorem parts_back {v : List Nat} {c : Nat} {js : List (List Nat)} {t : Tb} (hv : Vw v c) (hj : Pn v v.length js) (hs : sortT js = js) (tj : TabOf v c js t) : Ok (m_parts_of [tD v, tabD t]) (fun z os => z = .tuple (js.map tD) ∧ os = [none, none]) := by
  have sd := tj.sound hv hj
  have nd := once_nodup (t.map resR)
  have mm := mem_once (t.map resR)
  obtain ⟨hg, tg⟩ := sound_parts hv sd nd mm
  have e : sortT (once (t.map resR)) = js := by
    rw [sortT_perm_eq ((List.perm_ext_iff_of_nodup nd hj.nodup).mpr fun q => (parts_uniq hv hj hg tj tg q).symm), hs]
  refine (parts_of_ok hv sd nd mm).mono ?_
  rintro z os ⟨rfl, rfl⟩
  rw [e]
  exact ⟨rfl, rfl⟩
end Pf
namespace Pf
open PySem MW
/-- the parts of linked states -/
noncomputable def qsOf (n : Nat) (near : List (List Nat)) : List (List Nat) := sortT (once ((List.range n).map (cmp near)))
/-- what parts or clash tell -/
def Po (n : Nat) (near : List (List Nat)) (vs : List (List Nat)) (d : D) : Prop := ((∃ tr, Tw near (jvOf n vs) tr) ∧ d = .str "clash") ∨ ((∀ tr, ¬ Tw near (jvOf n vs) tr) ∧ d = .str (PyData.tuple ((qsOf n near).map tD)).shown)
theorem Po.str {n : Nat} {near vs : List (List Nat)} {d : D} (h : Po n near vs d) : ∃ x, d = .str x := by
  rcases h with ⟨_, e⟩ | ⟨_, e⟩ <;> exact ⟨_, e⟩
end Pf
namespace Pf
open PySem MW
def sm {α : Type} (l : List α) (f : α → Nat) : Nat := (l.map f).sum
section
variable {v : List Nat} {c : Nat}
/-- how many states of q show a -/
def hq (v q : List Nat) (a : Nat) : Nat := (q.map fun s => v.getD s 0).count a
end
end Pf
namespace Pf
open PySem MW
abbrev pD (js : List (List Nat)) : D := .tuple (js.map tD)
/-- a partition with one more state -/
def freeB (v : List Nat) (n : Nat) (js : List (List Nat)) (p : Nat) : Bool := !((js.getD p []).map fun s => v.getD s 0).contains (v.getD n 0)
def putN (n : Nat) (js : List (List Nat)) (p : Nat) : List (List Nat) := js.set p (js.getD p [] ++ [n])
def ext (v : List Nat) (n : Nat) (js : List (List Nat)) : List (List (List Nat)) := (js ++ [[n]]) :: ((List.range js.length).filter (freeB v n js)).map (putN n js)
end Pf
namespace Pf
open PySem MW
theorem viewLH_ok {N : Int} {d : D} {lw up : Nat} (h : Pen N d) (hN : N ≤ 100000) (l1 : 1 ≤ lw) (l2 : lw ≤ up) (l3 : up ≤ 9) :
    Ok (m__law_view [d, nD lw, nD up]) (fun z os => ∃ (v : List Nat) (c : Nat) (p : D), z = tD v ∧ Vw v c ∧ v.length ≤ up ∧ os = [some p, none, none] ∧ Pen (N + 20) p) := by
  refine ok_def (ρ0 := [some d, some (nD lw), some (nD up), none, none, none, none]) (by rfl) ?_
  unfold mb__law_view
  refine ok_seq (ok_set (ok_lst (ok_lc (ok_range1 (ok_cons (ok_bin (ok_var (d := nD lw) rfl (ok_callD (ok_lend (d := d) rfl (ok_cons (ok_bin (ok_bin (ok_var (d := nD up) rfl (ok_var (d := nD lw) rfl ⟨_, gSub_ok, ok_c ⟨_, gAdd_ok, ok_nil ⟨_, rfl, ?_⟩⟩⟩))))))))))))))
  refine (draw_ok h (by omega) (by omega) (by omega)).mono ?_
  rintro z os ⟨x, p, rfl, x0, x1, rfl, hp⟩
  obtain ⟨x, rfl⟩ := Int.eq_ofNat_of_zero_le x0
  refine ⟨_, gAdd_ok, ok_nil ⟨_, rfl, by omega, ?_⟩⟩
  obtain ⟨many, em, h1, h9, hhi⟩ : ∃ many : Nat, ((lw : Nat) : Int) + (x : Int) = (many : Int) ∧ 1 ≤ many ∧ many ≤ 9 ∧ many ≤ up := ⟨lw + x, by omega, by omega, by omega, by omega⟩
  rw [em, Int.toNat_natCast, rangeD_nD]
  refine ok_at (ρ' := [some p, some (nD lw), some (nD up), none, none, none, none]) rfl ?_
  refine comp_list (fun k ys ρ => ∃ (p : D) (raw : List Nat), ρ = [some p, some (nD lw), some (nD up), none, none, none, none] ∧ Pen (N + 1 + k) p ∧ ys = raw.map nD ∧ raw.length = k) ⟨p, [], rfl, pen_le hp (by omega), rfl, rfl⟩ ?_ ?_
  · rintro i hi ys ρ ⟨p, raw, rfl, hp, rfl, hl⟩
    obtain ⟨e, hi⟩ := range_get hi
    refine ⟨_, rfl, ?_⟩
    walk_at "mx"
    refine (draw_ok hp (by omega) (by omega) (by omega)).mono ?_
    rintro z os ⟨x, p, rfl, h4, h5, rfl, hp⟩
    obtain ⟨x, rfl⟩ := Int.eq_ofNat_of_zero_le h4
    exact ⟨p, raw ++ [x], rfl, pen_le hp (by omega), by simp, by simp [hl]⟩
  · rintro ys ρ ⟨p, raw, rfl, hp, rfl, hl⟩
    rw [List.length_range] at hl hp
    refine ok_at (ρ' := [some p, some (nD lw), some (nD up), some (.list (raw.map nD)), none, none, none]) rfl ?_
    walk_at "mx"
    refine ⟨_, rfl, ?_⟩
    refine for_list (fun k ρ => ∃ (names : List Nat) (x5 : Option D), ρ = [some p, some (nD lw), some (nD up), some (.list (raw.map nD)), some (.list (names.map nD)), x5, none] ∧ names.Nodup ∧ (∀ x, x ∈ names ↔ x ∈ raw.take k) ∧ names.length ≤ k) ⟨[], none, rfl, List.nodup_nil, by simp, Nat.le_refl _⟩ ?_ ?_
    · rintro i hi ρ ⟨names, x5, rfl, hn, hm, hk⟩
      refine ⟨_, rfl, ?_⟩
      refine ok_at (ρ' := [some p, some (nD lw), some (nD up), some (.list (raw.map nD)), some (.list (names.map nD)), some (nD raw[i]), none]) rfl ?_
      refine ok_ifS (ok_testOwn ?_)
      walk_at "mx"
      refine ⟨_, bNotIn_nD _ _, ?_⟩
      have ht := fold_app raw i hi
      cases hc : !names.contains raw[i] with
      | false =>
        refine L2.iteF ?_
        refine ok_next ?_
        refine ⟨names, _, rfl, hn, fun x => ?_, by omega⟩
        rw [ht, List.mem_append, List.mem_singleton, hm x]
        refine ⟨.inl, fun z => z.elim id fun z => ?_⟩
        rw [z]
        exact (hm _).mp (List.contains_iff_mem.mp (by simpa using hc))
      | true =>
        refine L2.iteT ?_
        walk_at "mx"
        refine ⟨_, _, _, rfl, fApp_ok (by rw [List.length_map]; omega), ?_⟩
        refine ⟨names ++ [raw[i]], _, by rw [List.map_append]; rfl, ?_, fun x => ?_, by simp; omega⟩
        · refine List.nodup_append.mpr ⟨hn, by simp, fun a ha b hb e => ?_⟩
          rw [List.mem_singleton.mp hb] at e
          rw [e] at ha
          rw [List.contains_iff_mem.mpr ha] at hc
          cases hc
        · rw [ht, List.mem_append, List.mem_append, hm x]
    · rintro ρ ⟨names, x5, rfl, hn, hm, hk⟩
      rw [List.take_length] at hm
      rw [hl] at hk
      have fin : ∀ (p : D) (names : List Nat), Pen (N + many + 2) p → names.Nodup → (∀ x, x ∈ names ↔ x ∈ raw) → names.length ≤ many → Ok (mRet (mCall gTupleOf (mCons (mLst (mLc (mSeqD (mVar 3)) (gN 5) mYes (mIndexO 4 (mCons (mVar 5) mNil)) [5])) mNil)) [some p, some (nD lw), some (nD up), some (.list (raw.map nD)), some (.list (names.map nD)), x5, none])
          (DefK S__law_view fun z os => ∃ (v : List Nat) (c : Nat) (p : D), z = tD v ∧ Vw v c ∧ v.length ≤ up ∧ os = [some p, none, none] ∧ Pen (N + 20) p) := by
        intro p names hp hn hm hk
        walk_at "mx"
        refine ⟨_, rfl, ?_⟩
        refine ok_at (ρ' := [some p, some (nD lw), some (nD up), some (.list (raw.map nD)), some (.list (names.map nD)), none, none]) rfl ?_
        refine (comp_map (fun x => nD (names.idxOf x)) (l := raw) ?_).mono ?_
        · intro x hx
          refine ⟨_, rfl, ?_⟩
          refine ok_indexO rfl ?_
          walk_at "mx"
          exact ⟨_, _, rfl, gIndex_nD ((hm x).mpr hx), rfl, rfl⟩
        · rintro ys ρ ⟨rfl, rfl⟩
          walk_at "mx"
          refine defK_rt rfl ⟨raw.map fun x => names.idxOf x, names.length, p, by simp [tD], names_view hn hm (by omega) (by omega) (by omega), by rw [List.length_map]; omega, rfl, pen_le hp (by omega)⟩
      refine then_nx ?_
      walk_at "mx"
      refine (draw_ok hp (by omega) (by omega) (by omega)).mono ?_
      rintro z os ⟨x, p, rfl, h4, h5, rfl, hp⟩
      walk_at "mx"
      refine ⟨_, bEq_int _ _, ?_⟩
      cases (x == 0) with
      | true =>
        refine L2.iteT ?_
        walk_at "mx"
        refine ok_callOL rfl rfl ?_
        refine then_nx ?_
        rw [← List.map_reverse]
        exact fin p names.reverse (pen_le hp (by omega)) ((List.reverse_perm names).nodup_iff.mpr hn) (fun x => by rw [List.mem_reverse]; exact hm x) (by rw [List.length_reverse]; exact hk)
      | false =>
        refine L2.iteF ?_
        refine ok_next ?_
        refine then_nx ?_
        exact fin p names (pen_le hp (by omega)) hn hm hk
theorem table4 : m__law_table_v4 = m__law_table := rfl
end Pf
namespace Pf
open PySem MW
def kK (tr : List Nat) : List Nat := tr.length :: tr
theorem kK_inj {a b : List Nat} (h : kK a = kK b) : a = b := by
  unfold kK at h
  injection h
theorem lt_cons_nat (a b : Nat) (x y : List Nat) : (a :: x < b :: y) ↔ a < b ∨ (a = b ∧ x < y) := by
  constructor
  · intro h
    cases h with
    | rel h => exact .inl h
    | cons h => exact .inr ⟨rfl, h⟩
  · rintro (h | ⟨rfl, h⟩)
    · exact List.Lex.rel h
    · exact List.Lex.cons h
end Pf
namespace Pf
open PySem MW
theorem lt_app : ∀ {a b x y : List Nat}, a < b → a.length = b.length → a ++ x < b ++ y
  | [], [], _, _, h, _ => absurd h (List.lt_irrefl _)
  | [], _ :: _, _, _, _, e => by simp at e
  | _ :: _, [], _, _, _, e => by simp at e
  | c :: a, d :: b, x, y, h, e => by
    rw [List.cons_append, List.cons_append, lt_cons_nat]
    rw [lt_cons_nat] at h
    exact h.imp id fun ⟨h1, h2⟩ => ⟨h1, lt_app h2 (by simpa using e)⟩
theorem lt_snoc {b c : Nat} (h : b < c) : ∀ t : List Nat, t ++ [b] < t ++ [c]
  | [] => by show [b] < [c]; rw [lt_cons_nat]; exact .inl h
  | x :: t => by rw [List.cons_append, List.cons_append, lt_cons_nat]; exact .inr ⟨rfl, lt_snoc h t⟩
theorem le_snoc {a b : List Nat} (h : a ≤ b) (e : a.length = b.length) (o : Nat) : a ++ [o] ≤ b ++ [o] := by
  rcases Classical.em (a = b) with z | z
  · rw [z]; exact List.le_refl _
  · rcases List.le_iff_lt_or_eq.mp h with z2 | z2
    · exact List.le_of_lt (lt_app z2 e)
    · exact absurd z2 z
theorem kK_le {a b : List Nat} : kK a ≤ kK b ↔ a.length < b.length ∨ (a.length = b.length ∧ a ≤ b) := by
  unfold kK
  rw [List.le_iff_lt_or_eq, lt_cons_nat, List.le_iff_lt_or_eq]
  constructor
  · rintro ((h | ⟨h1, h2⟩) | h)
    · exact .inl h
    · exact .inr ⟨h1, .inl h2⟩
    · injection h with h1 h2
      exact .inr ⟨h1, .inr h2⟩
  · rintro (h | ⟨h1, h2 | h2⟩)
    · exact .inl (.inl h)
    · exact .inl (.inr ⟨h1, h2⟩)
    · exact .inr (by rw [h2])
/-- what the states found last lead to, as it comes -/
def cds (near : List (List Nat)) (L : Fd) : Fd := L.flatMap fun p => (near.getD p.1 []).map fun b => (b, p.2 ++ [b])
theorem cds_mem {near : List (List Nat)} {L : Fd} {q : Nat × List Nat} : q ∈ cds near L ↔ ∃ p ∈ L, q.1 ∈ near.getD p.1 [] ∧ q.2 = p.2 ++ [q.1] := by
  unfold cds
  rw [List.mem_flatMap]
  refine exists_congr fun p => and_congr_right fun _ => ?_
  rw [List.mem_map]
  constructor
  · rintro ⟨b, hb, rfl⟩; exact ⟨hb, rfl⟩
  · rintro ⟨h1, h2⟩; exact ⟨q.1, h1, by rw [← h2]⟩
abbrev Asc2 (L : Fd) : Prop := L.Pairwise fun p q => p.2 < q.2
theorem cds_asc {near : List (List Nat)} (asc : ∀ a, (near.getD a []).Pairwise (· < ·)) {k : Nat} : ∀ {L : Fd}, Asc2 L → (∀ p ∈ L, p.2.length = k) → Asc2 (cds near L)
  | [], _, _ => List.Pairwise.nil
  | p :: L, h, hl => by
    obtain ⟨h1, h2⟩ := List.pairwise_cons.mp h
    show List.Pairwise _ ((near.getD p.1 []).map (fun b => (b, p.2 ++ [b])) ++ cds near L)
    rw [List.pairwise_append]
    refine ⟨List.pairwise_map.mpr ((asc p.1).imp fun h => lt_snoc h _), cds_asc asc h2 fun q hq => hl q (List.mem_cons_of_mem _ hq), fun x hx y hy => ?_⟩
    obtain ⟨b, _, rfl⟩ := List.mem_map.mp hx
    obtain ⟨q, hq, _, e⟩ := cds_mem.mp hy
    rw [e]
    exact lt_app (h1 q hq) (by rw [hl p List.mem_cons_self, hl q (List.mem_cons_of_mem _ hq)])
/-- within a round: what has been looked at, and what was found -/
structure GIn (f D R : Fd) : Prop where
  sub : R.Sublist D
  all : ∀ p ∈ D, p.1 ∈ f.map (·.1) ∨ ∃ t, (p.1, t) ∈ R ∧ t ≤ p.2
theorem GIn.new {f D R : Fd} {c : Nat × List Nat} (h : GIn f D R) : GIn f (D ++ [c]) (R ++ [c]) :=
  ⟨List.Sublist.append h.sub (List.Sublist.refl _), fun p hp => by
    rcases List.mem_append.mp hp with z | z
    · exact (h.all p z).imp id fun ⟨t, h1, h2⟩ => ⟨t, List.mem_append_left _ h1, h2⟩
    · rw [List.mem_singleton.mp z]
      exact .inr ⟨c.2, List.mem_append_right _ (List.mem_singleton.mpr rfl), List.le_refl _⟩⟩
theorem GIn.old {f D R : Fd} {c : Nat × List Nat} (h : GIn f D R) (asc : Asc2 (D ++ [c])) (hc : c.1 ∈ (f ++ R).map (·.1)) : GIn f (D ++ [c]) R :=
  ⟨h.sub.trans (List.sublist_append_left _ _), fun p hp => by
    rcases List.mem_append.mp hp with z | z
    · exact h.all p z
    · rw [List.mem_singleton.mp z]
      rw [List.map_append] at hc
      rcases List.mem_append.mp hc with y | y
      · exact .inl y
      · obtain ⟨q, hq, e⟩ := List.mem_map.mp y
        refine .inr ⟨q.2, by rw [← e]; exact hq, List.le_of_lt ?_⟩
        exact (List.pairwise_append.mp asc).2.2 q (h.sub.subset hq) c (List.mem_singleton.mpr rfl)⟩
/-- between the rounds: all states with ways of at most k states -/
structure RIn (near : List (List Nat)) (s k : Nat) (f L : Fd) : Prop extends BInv near s f where
  last : ∀ p ∈ L, p ∈ f ∧ p.2.length = k
  done : ∀ p ∈ f, p ∉ L → p.2.length < k ∧ ∀ o ∈ near.getD p.1 [], o ∈ f.map (·.1)
  asc : Asc2 L
  low : ∀ w o, Way near s w o → w.length ≤ k → ∃ t, (o, t) ∈ f ∧ kK t ≤ kK w
  once : ∀ p ∈ f, p.2.Nodup ∧ ∀ x ∈ p.2, x ∈ f.map (·.1)
theorem Way.len1 {near : List (List Nat)} {s o : Nat} {w : List Nat} (h : Way near s w o) (hl : w.length ≤ 1) : w = [s] ∧ o = s := by
  cases h with
  | one => exact ⟨rfl, rfl⟩
  | more h _ =>
    have := List.length_pos_iff.mpr h.ne
    simp only [List.length_append, List.length_cons, List.length_nil] at hl
    omega
theorem RIn.start {near : List (List Nat)} {s : Nat} (hs : s < near.length) : RIn near s 1 [(s, [s])] [(s, [s])] := by
  refine ⟨⟨by simp, by simpa using hs, by simp, ?_⟩, ?_, ?_, by simp, ?_, ?_⟩
  · intro p hp
    have : p = (s, [s]) := by simpa using hp
    subst this
    exact ⟨.one, by simp⟩
  · intro p hp
    have : p = (s, [s]) := by simpa using hp
    subst this
    exact ⟨by simp, rfl⟩
  · intro p hp hn
    exact absurd hp hn
  · intro w o hw hl
    obtain ⟨rfl, rfl⟩ := hw.len1 hl
    exact ⟨[o], by simp, List.le_refl _⟩
  · intro p hp
    have : p = (s, [s]) := by simpa using hp
    subst this
    exact ⟨by simp, by simp⟩
theorem RIn.next {near : List (List Nat)} {s k : Nat} {f L R : Fd} (h : RIn near s k f L) (k1 : 1 ≤ k) (asc : ∀ a, (near.getD a []).Pairwise (· < ·)) (hB : BInv near s (f ++ R)) (g : GIn f (cds near L) R) : RIn near s (k + 1) (f ++ R) R := by
  have keys : ∀ x, x ∈ f.map (·.1) → x ∈ (f ++ R).map (·.1) := fun x hx => by rw [List.map_append]; exact List.mem_append_left _ hx
  have flen : ∀ p ∈ f, p.2.length ≤ k := fun p hp => by
    by_cases hL : p ∈ L
    · exact Nat.le_of_eq (h.last p hL).2
    · exact Nat.le_of_lt (h.done p hp hL).1
  have rl : ∀ p ∈ R, ∃ a t, (a, t) ∈ L ∧ p.1 ∈ near.getD a [] ∧ p.2 = t ++ [p.1] := fun p hp => by
    obtain ⟨q, hq, h1, h2⟩ := cds_mem.mp (g.sub.subset hp)
    exact ⟨q.1, q.2, hq, h1, h2⟩
  have rlen : ∀ p ∈ R, p.2.length = k + 1 := fun p hp => by
    obtain ⟨a, t, hL, _, e⟩ := rl p hp
    rw [e, List.length_append, (h.last _ hL).2]; rfl
  have nd := hB.nd
  rw [List.map_append, List.nodup_append] at nd
  refine ⟨hB, fun p hp => ⟨List.mem_append_right _ hp, rlen p hp⟩, fun p hp hn => ?_, (cds_asc asc h.asc fun p hp => (h.last p hp).2).sublist g.sub, fun w o hw hl => ?_, fun p hp => ?_⟩
  · have hp : p ∈ f := (List.mem_append.mp hp).resolve_right hn
    refine ⟨by have := flen p hp; omega, fun o ho => ?_⟩
    by_cases hL : p ∈ L
    · rcases g.all (o, p.2 ++ [o]) (cds_mem.mpr ⟨p, hL, ho, rfl⟩) with z | ⟨t, z, _⟩
      · exact keys o z
      · rw [List.map_append]; exact List.mem_append_right _ (List.mem_map.mpr ⟨_, z, rfl⟩)
    · exact keys o ((h.done p hp hL).2 o ho)
  · by_cases hk : w.length ≤ k
    · obtain ⟨t, h1, h2⟩ := h.low w o hw hk
      exact ⟨t, List.mem_append_left _ h1, h2⟩
    · have hwl : w.length = k + 1 := by omega
      have infd : ∀ o, o ∈ f.map (·.1) → ∃ t, (o, t) ∈ f ++ R ∧ kK t ≤ kK w := fun o ho => by
        obtain ⟨q, hq, e⟩ := List.mem_map.mp ho
        exact ⟨q.2, List.mem_append_left _ (by rw [← e]; exact hq), kK_le.mpr (.inl (by have := flen q hq; omega))⟩
      cases hw with
      | one => simp at hwl; omega
      | more hw' ho =>
        rename_i w' a
        rw [List.length_append] at hwl
        have hwl : w'.length = k := by simpa using hwl
        obtain ⟨t, h1, h2⟩ := h.low w' a hw' (by omega)
        by_cases hL : (a, t) ∈ L
        · rcases g.all (o, t ++ [o]) (cds_mem.mpr ⟨(a, t), hL, ho, rfl⟩) with z | ⟨t2, z, le⟩
          · exact infd o z
          · have tl := (h.last _ hL).2
            refine ⟨t2, List.mem_append_right _ z, kK_le.mpr (.inr ⟨?_, ?_⟩)⟩
            · rw [rlen _ z, List.length_append, hwl]; rfl
            · refine List.le_trans le (le_snoc ?_ (by rw [hwl]; exact tl) o)
              rcases kK_le.mp h2 with y | y
              · have tl : t.length = k := tl
                omega
              · exact y.2
        · exact infd o ((h.done _ h1 hL).2 o ho)
  · rcases List.mem_append.mp hp with z | z
    · exact ⟨(h.once p z).1, fun x hx => keys x ((h.once p z).2 x hx)⟩
    · obtain ⟨a, t, hL, _, e⟩ := rl p z
      obtain ⟨o1, o2⟩ := h.once _ (h.last _ hL).1
      have hpn : p.1 ∉ f.map (·.1) := fun y => nd.2.2 _ y p.1 (List.mem_map.mpr ⟨_, z, rfl⟩) rfl
      rw [e]
      refine ⟨?_, fun x hx => ?_⟩
      · rw [List.nodup_append]
        refine ⟨o1, by simp, fun x hx y hy exy => ?_⟩
        rw [List.mem_singleton.mp hy] at exy
        rw [exy] at hx
        exact hpn (o2 _ hx)
      · rcases List.mem_append.mp hx with y | y
        · exact keys x (o2 x y)
        · rw [List.mem_singleton.mp y, List.map_append]
          exact List.mem_append_right _ (List.mem_map.mpr ⟨_, z, rfl⟩)
/-- what the search ends with: the least of the ways to each state -/
structure BLst (near : List (List Nat)) (s : Nat) (f : Fd) : Prop extends BEnd near s f where
  once : ∀ p ∈ f, p.2.Nodup
  least : ∀ p ∈ f, ∀ w, Way near s w p.1 → kK p.2 ≤ kK w
end Pf
namespace Pf
open PySem MW
structure GQ (f D R : Fd) : Prop where
  sub : ∀ p ∈ R, p ∈ D
  all : ∀ p ∈ D, p.1 ∈ f.map (·.1) ∨ ∃ t, (p.1, t) ∈ R ∧ t ≤ p.2
  nd : (R.map (·.1)).Nodup
  dis : ∀ p ∈ R, p.1 ∉ f.map (·.1)
structure QIn (near : List (List Nat)) (s k : Nat) (f L : Fd) : Prop extends BInv near s f where
  last : ∀ p ∈ L, p ∈ f ∧ p.2.length = k
  done : ∀ p ∈ f, p ∉ L → p.2.length < k ∧ ∀ o ∈ near.getD p.1 [], o ∈ f.map (·.1)
  low : ∀ w o, Way near s w o → w.length ≤ k → ∃ t, (o, t) ∈ f ∧ kK t ≤ kK w
  once : ∀ p ∈ f, p.2.Nodup ∧ ∀ x ∈ p.2, x ∈ f.map (·.1)
theorem QIn.start {near : List (List Nat)} {s : Nat} (hs : s < near.length) : QIn near s 1 [(s, [s])] [(s, [s])] :=
  let r := RIn.start hs
  ⟨r.toBInv, r.last, r.done, r.low, r.once⟩
section
variable {near : List (List Nat)} {s k : Nat} {f L R : Fd}
theorem QIn.next (h : QIn near s k f L) (k1 : 1 ≤ k) (hB : BInv near s (f ++ R)) (g : GQ f (cds near L) R) : QIn near s (k + 1) (f ++ R) R := by
  have keys : ∀ x, x ∈ f.map (·.1) → x ∈ (f ++ R).map (·.1) := fun x hx => by rw [List.map_append]; exact List.mem_append_left _ hx
  have flen : ∀ p ∈ f, p.2.length ≤ k := fun p hp => by
    by_cases hL : p ∈ L
    · exact Nat.le_of_eq (h.last p hL).2
    · exact Nat.le_of_lt (h.done p hp hL).1
  have rl : ∀ p ∈ R, ∃ a t, (a, t) ∈ L ∧ p.1 ∈ near.getD a [] ∧ p.2 = t ++ [p.1] := fun p hp => by
    obtain ⟨q, hq, h1, h2⟩ := cds_mem.mp (g.sub p hp)
    exact ⟨q.1, q.2, hq, h1, h2⟩
  have rlen : ∀ p ∈ R, p.2.length = k + 1 := fun p hp => by
    obtain ⟨a, t, hL, _, e⟩ := rl p hp
    rw [e, List.length_append, (h.last _ hL).2]; rfl
  have nd := hB.nd
  rw [List.map_append, List.nodup_append] at nd
  refine ⟨hB, fun p hp => ⟨List.mem_append_right _ hp, rlen p hp⟩, fun p hp hn => ?_, fun w o hw hl => ?_, fun p hp => ?_⟩
  · have hp : p ∈ f := (List.mem_append.mp hp).resolve_right hn
    refine ⟨by have := flen p hp; omega, fun o ho => ?_⟩
    by_cases hL : p ∈ L
    · rcases g.all (o, p.2 ++ [o]) (cds_mem.mpr ⟨p, hL, ho, rfl⟩) with z | ⟨t, z, _⟩
      · exact keys o z
      · rw [List.map_append]; exact List.mem_append_right _ (List.mem_map.mpr ⟨_, z, rfl⟩)
    · exact keys o ((h.done p hp hL).2 o ho)
  · by_cases hk : w.length ≤ k
    · obtain ⟨t, h1, h2⟩ := h.low w o hw hk
      exact ⟨t, List.mem_append_left _ h1, h2⟩
    · have hwl : w.length = k + 1 := by omega
      have infd : ∀ o, o ∈ f.map (·.1) → ∃ t, (o, t) ∈ f ++ R ∧ kK t ≤ kK w := fun o ho => by
        obtain ⟨q, hq, e⟩ := List.mem_map.mp ho
        exact ⟨q.2, List.mem_append_left _ (by rw [← e]; exact hq), kK_le.mpr (.inl (by have := flen q hq; omega))⟩
      cases hw with
      | one => simp at hwl; omega
      | more hw' ho =>
        rename_i w' a
        rw [List.length_append] at hwl
        have hwl : w'.length = k := by simpa using hwl
        obtain ⟨t, h1, h2⟩ := h.low w' a hw' (by omega)
        by_cases hL : (a, t) ∈ L
        · rcases g.all (o, t ++ [o]) (cds_mem.mpr ⟨(a, t), hL, ho, rfl⟩) with z | ⟨t2, z, le⟩
          · exact infd o z
          · have tl := (h.last _ hL).2
            refine ⟨t2, List.mem_append_right _ z, kK_le.mpr (.inr ⟨?_, ?_⟩)⟩
            · rw [rlen _ z, List.length_append, hwl]; rfl
            · refine List.le_trans le (le_snoc ?_ (by rw [hwl]; exact tl) o)
              rcases kK_le.mp h2 with y | y
              · have tl : t.length = k := tl
                omega
              · exact y.2
        · exact infd o ((h.done _ h1 hL).2 o ho)
  · rcases List.mem_append.mp hp with z | z
    · exact ⟨(h.once p z).1, fun x hx => keys x ((h.once p z).2 x hx)⟩
    · obtain ⟨a, t, hL, _, e⟩ := rl p z
      obtain ⟨o1, o2⟩ := h.once _ (h.last _ hL).1
      have hpn : p.1 ∉ f.map (·.1) := g.dis p z
      rw [e]
      refine ⟨?_, fun x hx => ?_⟩
      · rw [List.nodup_append]
        refine ⟨o1, by simp, fun x hx y hy exy => ?_⟩
        rw [List.mem_singleton.mp hy] at exy
        rw [exy] at hx
        exact hpn (o2 _ hx)
      · rcases List.mem_append.mp hx with y | y
        · exact keys x (o2 x y)
        · rw [List.mem_singleton.mp y, List.map_append]
          exact List.mem_append_right _ (List.mem_map.mpr ⟨_, z, rfl⟩)
end
/-- d[b] = t -/
def updF (R : Fd) (b : Nat) (t : List Nat) : Fd := if b ∈ R.map (·.1) then R.map (fun p => if p.1 = b then (b, t) else p) else R ++ [(b, t)]
theorem updF_keys (R : Fd) (b : Nat) (t : List Nat) : (updF R b t).map (·.1) = if b ∈ R.map (·.1) then R.map (·.1) else R.map (·.1) ++ [b] := by
  unfold updF
  by_cases h : b ∈ R.map (·.1)
  · rw [if_pos h, if_pos h, List.map_map]
    refine List.map_congr_left fun p _ => ?_
    show (if p.1 = b then (b, t) else p).1 = p.1
    by_cases e : p.1 = b
    · rw [if_pos e, e]
    · rw [if_neg e]
  · rw [if_neg h, if_neg h, List.map_append]; rfl
theorem GQ.old {f D R : Fd} {c : Nat × List Nat} (h : GQ f D R) (hc : c.1 ∈ f.map (·.1)) : GQ f (D ++ [c]) R :=
  ⟨fun p hp => List.mem_append_left _ (h.sub p hp), fun p hp => by
    rcases List.mem_append.mp hp with z | z
    · exact h.all p z
    · rw [List.mem_singleton.mp z]; exact .inl hc, h.nd, h.dis⟩
theorem GQ.put {f D R : Fd} {c : Nat × List Nat} {t u : List Nat} (h : GQ f D R) (hc : c.1 ∉ f.map (·.1)) (hu : (lkF R c.1).getD c.2 = u) (ht : t = u ∨ t = c.2) (le1 : t ≤ u) (le2 : t ≤ c.2) : GQ f (D ++ [c]) (updF R c.1 t) := by
  by_cases hk : c.1 ∈ R.map (·.1)
  · -- there already
    obtain ⟨q, hq, eq⟩ := List.mem_map.mp hk
    have huR : (c.1, u) ∈ R := by
      cases e : lkF R c.1 with
      | none => exact absurd hk (lkF_none.mp e)
      | some w => rw [e] at hu; cases hu; exact lkF_some e
    have mem : ∀ p, p ∈ updF R c.1 t ↔ ∃ p0 ∈ R, (if p0.1 = c.1 then (c.1, t) else p0) = p := fun p => by
      unfold updF
      rw [if_pos hk, List.mem_map]
    refine ⟨fun p hp => ?_, fun p hp => ?_, by rw [updF_keys, if_pos hk]; exact h.nd, fun p hp => ?_⟩
    · obtain ⟨p0, h0, e⟩ := (mem p).mp hp
      by_cases e1 : p0.1 = c.1
      · rw [if_pos e1] at e
        rw [← e]
        rcases ht with z | z
        · exact List.mem_append_left _ (h.sub _ (by rw [z]; exact huR))
        · exact List.mem_append_right _ (by rw [z]; exact List.mem_singleton.mpr rfl)
      · rw [if_neg e1] at e
        rw [← e]
        exact List.mem_append_left _ (h.sub _ h0)
    · have at_c : (c.1, t) ∈ updF R c.1 t := (mem _).mpr ⟨_, huR, by rw [if_pos rfl]⟩
      rcases List.mem_append.mp hp with z | z
      · rcases h.all p z with y | ⟨t2, y1, y2⟩
        · exact .inl y
        · by_cases e : p.1 = c.1
          · refine .inr ⟨t, by rw [e]; exact at_c, List.le_trans le1 ?_⟩
            rw [e] at y1
            have : t2 = u := by
              have nd := h.nd
              have key : ∀ R : Fd, (R.map (·.1)).Nodup → (c.1, t2) ∈ R → (c.1, u) ∈ R → t2 = u := by
                intro R
                induction R with
                | nil => intro _ h; cases h
                | cons p R ih =>
                  intro nd h1 h2
                  obtain ⟨n1, n2⟩ := List.nodup_cons.mp nd
                  rcases List.mem_cons.mp h1 with z | z <;> rcases List.mem_cons.mp h2 with y | y
                  · rw [← z] at y; injection y with _ y; exact y.symm
                  · rw [← z] at n1; exact absurd (List.mem_map.mpr ⟨_, y, rfl⟩) n1
                  · rw [← y] at n1; exact absurd (List.mem_map.mpr ⟨_, z, rfl⟩) n1
                  · exact ih n2 z y
              exact key R nd y1 huR
            rw [← this]; exact y2
          · exact .inr ⟨t2, (mem _).mpr ⟨_, y1, by rw [if_neg e]⟩, y2⟩
      · rw [List.mem_singleton.mp z]
        exact .inr ⟨t, at_c, le2⟩
    · obtain ⟨p0, h0, e⟩ := (mem p).mp hp
      by_cases e1 : p0.1 = c.1
      · rw [if_pos e1] at e
        rw [← e]; exact hc
      · rw [if_neg e1] at e
        rw [← e]; exact h.dis _ h0
  · have hn : lkF R c.1 = none := lkF_none.mpr hk
    rw [hn] at hu
    have hu : c.2 = u := hu
    have htc : t = c.2 := by
      rcases ht with z | z
      · rw [z, hu]
      · exact z
    have e : updF R c.1 t = R ++ [(c.1, t)] := if_neg hk
    rw [e, htc]
    refine ⟨fun p hp => ?_, fun p hp => ?_, ?_, fun p hp => ?_⟩
    · rcases List.mem_append.mp hp with z | z
      · exact List.mem_append_left _ (h.sub p z)
      · exact List.mem_append_right _ z
    · rcases List.mem_append.mp hp with z | z
      · exact (h.all p z).imp id fun ⟨t, a, b⟩ => ⟨t, List.mem_append_left _ a, b⟩
      · rw [List.mem_singleton.mp z]
        exact .inr ⟨c.2, List.mem_append_right _ (List.mem_singleton.mpr rfl), List.le_refl _⟩
    · rw [List.map_append, List.nodup_append]
      refine ⟨h.nd, by simp, fun x hx y hy e => hk ?_⟩
      rw [show y = c.1 by simpa using hy] at e
      rw [← e]; exact hx
    · rcases List.mem_append.mp hp with z | z
      · exact h.dis p z
      · rw [List.mem_singleton.mp z]; exact hc
theorem Way.tr {near near' : List (List Nat)} (h : ∀ a o, o ∈ near.getD a [] → o ∈ near'.getD a []) {s o : Nat} {w : List Nat} (x : Way near s w o) : Way near' s w o := by
  induction x with
  | one => exact .one
  | more w hb ih => exact ih.more (h _ _ hb)
theorem BLst.tr {near near' : List (List Nat)} {s : Nat} {f : Fd} (hl : near.length = near'.length) (h : ∀ a o, o ∈ near.getD a [] ↔ o ∈ near'.getD a []) (x : BLst near s f) : BLst near' s f := by
  have h1 : ∀ a o, o ∈ near.getD a [] → o ∈ near'.getD a [] := fun a o => (h a o).mp
  have h2 : ∀ a o, o ∈ near'.getD a [] → o ∈ near.getD a [] := fun a o => (h a o).mpr
  refine ⟨⟨⟨x.nd, fun p hp => by rw [← hl]; exact x.lt p hp, x.st, fun p hp => ⟨(x.wy p hp).1.tr h1, (x.wy p hp).2⟩⟩, fun o => ?_⟩, x.once, fun p hp w hw => x.least p hp w (hw.tr h2)⟩
  rw [← x.all o]
  exact ⟨fun ⟨t, w⟩ => ⟨t, w.tr h2⟩, fun ⟨t, w⟩ => ⟨t, w.tr h1⟩⟩
/-- two searches find the same -/
theorem BLst.same {near : List (List Nat)} {s : Nat} {f g : Fd} (x : BLst near s f) (y : BLst near s g) : ∀ p, p ∈ f → p ∈ g := fun p hp => by
  have hk : p.1 ∈ g.map (·.1) := (y.all p.1).mp ⟨p.2, (x.wy p hp).1⟩
  obtain ⟨q, hq, e⟩ := List.mem_map.mp hk
  have l1 := x.least p hp q.2 (by rw [← e]; exact (y.wy q hq).1)
  have l2 := y.least q hq p.2 (by rw [e]; exact (x.wy p hp).1)
  have : p.2 = q.2 := kK_inj (List.le_antisymm l1 l2)
  have : p = q := Prod.ext e.symm this
  rw [this]; exact hq
end Pf
namespace Pf
open PySem MW
/-- plain things: numbers, None, tuples of such -/
inductive Pl : Nat → D → Prop
  | num (k a : Nat) : Pl k (nD a)
  | non (k : Nat) : Pl k .none
  | tup (k : Nat) (ds : List D) (h : ∀ d ∈ ds, Pl k d) : Pl (k + 1) (.tuple ds)
theorem Pl.lay : ∀ {k : Nat} {d : D}, Pl k d → d.canLay0 = true ∧ d.depth ≤ k + 1
  | _, _, .num k a => ⟨rfl, Nat.zero_le _⟩
  | _, _, .non k => ⟨rfl, Nat.zero_le _⟩
  | _, _, .tup k ds h => by
    have : ∀ l : List D, (∀ d ∈ l, d.canLay0 = true ∧ d.depth ≤ k + 1) → PyData.canLayAll0 l = true ∧ PyData.depthAll l ≤ k + 1 := by
      intro l
      induction l with
      | nil => intro _; exact ⟨rfl, Nat.zero_le _⟩
      | cons x l ih =>
        intro hl
        have h1 := hl x List.mem_cons_self
        have h2 := ih fun d hd => hl d (List.mem_cons_of_mem _ hd)
        refine ⟨by simp [PyData.canLayAll0, h1.1, h2.1], ?_⟩
        simp only [PyData.depthAll]
        omega
    have z := this ds fun d hd => (h d hd).lay
    refine ⟨by simp [PyData.canLay0, z.1], ?_⟩
    simp only [PyData.depth]
    omega
theorem Pl.shaped {k : Nat} {d : D} (h : Pl k d) (hk : k ≤ 20) : SeqAt.shaped d = true := by
  have := h.lay
  simp [SeqAt.shaped, this.1]
  omega
end Pf
namespace Pf
open PySem MW
section
variable {v u : List Nat} {c k : Nat} {t r : Tb}
/-- in one part -/
theorem lt_own (hs : Sound v c t) {s o : Nat} (h : s < v.length) : LT t s o ↔ cell t s (v.getD o 0) = some o := by
  constructor
  · rintro ⟨w, e⟩
    have hw : w < c := by
      by_cases h1 : s < t.length
      · have hr := hs.tab.2 t[s] (List.getElem_mem h1)
        by_cases h2 : w < t[s].length
        · rw [← hr.1]; exact h2
        · unfold cell at e
          simp [List.getD_eq_getElem?_getD, h1, h2] at e
      · exact absurd (by rw [hs.tab.1]; exact h) h1
    rw [hs.shown s w o h hw e]; exact e
  · exact fun h => ⟨_, h⟩
theorem lt_refl (hs : Sound v c t) {s : Nat} (h : s < v.length) : LT t s s := (lt_own hs h).mpr (hs.stay s h)
theorem lt_row (hv : Vw v c) (hs : Sound v c t) {s o : Nat} (h : s < v.length) (e : LT t s o) : o < v.length ∧ ∀ x, x < c → cell t o x = cell t s x := by
  have e := (lt_own hs h).mp e
  have ho := Tab.lt hs.tab e
  exact ⟨ho, hs.forget s _ o h (vw_getD hv ho) e⟩
/-- what two independent parts are -/
structure Ind (n : Nat) (v u : List Nat) (c k : Nat) (t r : Tb) : Prop where
  hv : Vw v c
  hu : Vw u k
  vl : v.length = n
  ul : u.length = n
  st : Sound v c t
  sr : Sound u k r
  ku : ∀ s o, s < n → LT t s o → u.getD o 0 = u.getD s 0
  kv : ∀ s o, s < n → LT r s o → v.getD o 0 = v.getD s 0
  com : ∀ s q o, s < n → LT t s q → LT r q o → ∃ q', LT r s q' ∧ LT t q' o
  moc : ∀ s q o, s < n → LT r s q → LT t q o → ∃ q', LT t s q' ∧ LT r q' o
namespace Ind
variable {n : Nat}
def TR (t r : Tb) (s o : Nat) : Prop := ∃ q, LT t s q ∧ LT r q o
theorem tl (h : Ind n v u c k t r) {s o : Nat} (hs : s < n) (e : LT t s o) : o < n := by
  have := (lt_row h.hv h.st (by rw [h.vl]; exact hs) e).1
  rw [h.vl] at this; exact this
theorem rl (h : Ind n v u c k t r) {s o : Nat} (hs : s < n) (e : LT r s o) : o < n := by
  have := (lt_row h.hu h.sr (by rw [h.ul]; exact hs) e).1
  rw [h.ul] at this; exact this
/-- all the values meet -/
theorem full (h : Ind n v u c k t r) {a b : Nat} (ha : a < n) (e : TR t r a b) : ∃ m, TR t r a m ∧ v.getD m 0 = v.getD a 0 ∧ u.getD m 0 = u.getD b 0 := by
  obtain ⟨q, e1, e2⟩ := e
  obtain ⟨q', f1, f2⟩ := h.com a q b ha e1 e2
  have hq' := h.rl ha f1
  refine ⟨q', ⟨a, lt_refl h.st (by rw [h.vl]; exact ha), f1⟩, h.kv a q' ha f1, ?_⟩
  exact (h.ku q' b hq' f2).symm
theorem two (h : Ind n v u c k t r) {s o : Nat} (hs : s < n) (e : TR t r s o) : ∃ q, q < n ∧ cell t s (v.getD o 0) = some q ∧ cell r q (u.getD o 0) = some o := by
  obtain ⟨q, e1, e2⟩ := e
  have hq := h.tl hs e1
  refine ⟨q, hq, ?_, (lt_own h.sr (by rw [h.ul]; exact hq)).mp e2⟩
  rw [h.kv q o hq e2]
  exact (lt_own h.st (by rw [h.vl]; exact hs)).mp e1
end Ind
end
end Pf
namespace Pf
open PySem MW
variable {v : List Nat} {c : Nat}
theorem Pn.nd {n : Nat} {ps : List (List Nat)} (h : Pn v n ps) : ps.flatten.Nodup := h.all.nodup_iff.mpr List.nodup_range
end Pf
namespace Pf
open PySem MW
section
variable {v : List Nat} {c : Nat}
abbrev Dif (v q : List Nat) : Prop := ∀ a ∈ q, ∀ b ∈ q, v.getD a 0 = v.getD b 0 → a = b
structure Fp (v : List Nat) (s0 : Nat) (r : List Nat) (k : Nat) (F : List (List Nat)) : Prop where
  ok : ∀ q ∈ F, ∃ u, q = s0 :: u ∧ u.Sublist (r.take k) ∧ Dif v q
  wt : sm F (fun q => 6 ^ (k + 1 - q.length)) ≤ 7 ^ k
  nd : F.Nodup
  all : ∀ u, u.Sublist (r.take k) → Dif v (s0 :: u) → (s0 :: u) ∈ F
theorem Fp.len {s0 : Nat} {r : List Nat} {k : Nat} {F : List (List Nat)} (h : Fp v s0 r k F) {q : List Nat} (hq : q ∈ F) : 1 ≤ q.length ∧ q.length ≤ k + 1 := by
  obtain ⟨u, rfl, hs, _⟩ := h.ok q hq
  have := hs.length_le
  rw [List.length_take] at this
  simp; omega
structure Gj (v st : List Nat) (js : List (List Nat)) : Prop where
  perm : js.flatten.Perm st
  sub : ∀ q ∈ js, q ≠ [] ∧ q.Pairwise (· < ·) ∧ Dif v q
  ord : js.Pairwise fun a b => a.headD 0 < b.headD 0
theorem Gj.hd {st : List Nat} {js : List (List Nat)} (h : Gj v st js) {q : List Nat} (hq : q ∈ js) : q.headD 0 ∈ st := by
  refine h.perm.mem_iff.mp (List.mem_flatten.mpr ⟨q, hq, ?_⟩)
  obtain ⟨hne, _⟩ := h.sub q hq
  cases q with
  | nil => exact absurd rfl hne
  | cons a u => exact List.mem_cons_self
theorem Gj.few {st : List Nat} {js : List (List Nat)} (h : Gj v st js) : js.length ≤ st.length := by
  rw [← h.perm.length_eq, List.length_flatten]
  have : ∀ l : List (List Nat), (∀ q ∈ l, q ≠ []) → l.length ≤ (l.map List.length).sum := by
    intro l
    induction l with
    | nil => intro _; exact Nat.le_refl _
    | cons a l ih =>
      intro hne
      have h1 := ih fun q hq => hne q (List.mem_cons_of_mem _ hq)
      have h2 := List.length_pos_iff.mpr (hne a List.mem_cons_self)
      rw [List.map_cons, List.sum_cons, List.length_cons]
      omega
  exact this js fun q hq => (h.sub q hq).1
end
end Pf
namespace Pf
open PySem MW L2 TL
theorem ok_try_er {mb mh : Ev → Out Fl} {cs : List (Str × Bool)} {ρ : Ev} {PF : Fl → Ev → Prop} {c : Str} {PE : Ev → Prop} (h : Er (mb ρ) c PE) (hc : cs.lookup c = some true) (k : ∀ ρ1, PE ρ1 → Ok (mh ρ1) PF) : Ok (mTry mb cs mh ρ) PF := by
  obtain ⟨ρ1, e, p⟩ := h.eq
  unfold mTry
  rw [e]
  show Ok (match cs.lookup c with | some true => noE (mh ρ1) | some false => .err c ρ1 | none => .bad) PF
  rw [hc]
  exact ok_noE (k ρ1 p)
end Pf
namespace Pf
open PySem MW L2 TL
theorem head64 (ns : List Int) (hl : ns.length ≤ 63) {rest : Ev} {P : List D → Ev → Prop} (h : ∀ items : List D, (∀ d ∈ items, ∃ i : Int, d = .int i) → P items (some (.list (ns.map .int)) :: rest)) :
    Ok (mSeqD (mBin gAdd (mLst (mCons (mCallD m__law_cell_at [none, none] (mCons (mVar 0) (mCons (mC (.int 0)) mNil))) mNil)) (mSl (mVar 0) (mPart (mC (.int 1))) (mPart (mC (.int 3))))) (some (.list (ns.map .int)) :: rest)) P := by
  refine ok_seqD (ok_bin (ok_lst (ok_cons (ok_callD (ok_cons (ok_var (d := .list (ns.map .int)) rfl (ok_cons (ok_c (ok_nil ⟨_, rfl, ?_⟩)))))))))
  refine (cell_ok ns 0).mono ?_
  rintro z os ⟨i0, rfl, rfl⟩
  refine ok_nil (ok_slL (ok_var (d := .list (ns.map .int)) rfl (ok_part (ok_c ⟨1, rfl, ok_part (ok_c ⟨3, rfl, _, rfl, _, gAddL_ok ?_, _, rfl, ?_⟩)⟩))))
  · have := cut_len' (ns.map PyData.int) (some 1) (some 3)
    rw [List.length_map] at this
    simp only [List.length_cons, List.length_nil]
    omega
  refine h _ fun d hd => ?_
  rcases List.mem_append.mp hd with z | z
  · exact ⟨i0, List.mem_singleton.mp z⟩
  · obtain ⟨i, _, e⟩ := List.mem_map.mp (cut_mem z)
    exact ⟨i, e.symm⟩
end Pf
namespace Pf
open PySem MW
theorem need_state_ok {v : List Nat} {s : Nat} (hs : s < v.length) : Ok (m_need_state [tD v, nD s]) (fun z os => os = [none, none]) := by
  refine ok_def (ρ0 := [some (tD v), some (nD s)]) (by rfl) ?_
  unfold mb_need_state
  refine ok_ifS (ok_notB (ok_tru (ok_callD (ok_cons (ok_var (d := nD s) rfl (ok_cons (ok_call (ok_cons (ok_var (d := tD v) rfl (ok_nil ⟨_, gLenT_ok, ok_nil ⟨_, rfl, ?_⟩⟩))))))))))
  rw [List.length_map]
  refine (below_any (nD s) (v.length : Int)).mono ?_
  rintro z os ⟨rfl, rfl⟩
  have : belowB (v.length : Int) (nD s) = true := by
    show (decide ((0 : Int) ≤ (s : Int)) && decide ((s : Int) < (v.length : Int))) = true
    rw [Bool.and_eq_true, decide_eq_true_eq, decide_eq_true_eq]
    omega
  rw [this]
  exact ⟨true, rfl, L2.iteF (ok_next (defK_nx rfl rfl))⟩
end Pf
namespace Pf
open PySem MW
/-- a view object, told -/
def VO (cn : Str) (v : List Nat) (t : Tb) : D := insD cn [(.str "_shown", tD v), (.str "_table", tabD t)]
theorem VO_vw {cn : Str} {v : List Nat} {t : Tb} {P : Str → Bool} (h : viewNames.contains cn = true) (hP : P cn = true) : vwIs P (VO cn v t) = true := by
  show (viewNames.contains cn && P cn) = true
  rw [h, hP]; rfl
theorem fld_shown (cn : Str) (v : List Nat) (t : Tb) : gFld "_shown" (VO cn v t) = some (tD v) := by
  show (if fldNames.contains "_shown" = true then fldD "_shown" [(.str "_shown", tD v), (.str "_table", tabD t)] else none) = _
  rw [if_pos (by decide)]
  rfl
theorem fld_table (cn : Str) (v : List Nat) (t : Tb) : gFld "_table" (VO cn v t) = some (tabD t) := by
  show (if fldNames.contains "_table" = true then fldD "_table" [(.str "_shown", tD v), (.str "_table", tabD t)] else none) = _
  rw [if_pos (by decide)]
  show (if ("_shown" : Str) = "_table" then some (tD v) else if ("_table" : Str) = "_table" then some (tabD t) else none) = _
  rw [if_neg (by decide), if_pos rfl]
section
variable {ρ : Ev} {P : D → Ev → Prop} {PL : List D → Ev → Prop} {PF : MW.Fl → Ev → Prop}
theorem ok_setFld {i : Nat} {f : Str} {mv : Ev → Out D} (h : Ok (mv ρ) fun z ρ1 => ∃ cn ps, rd ρ1 i = some (insD cn ps) ∧ fldNames.contains f = true ∧ ps.length < 900 ∧ PF .nx (ρ1.set i (some (insD cn (putFld f z ps))))) : Ok (mSetFld i f mv ρ) PF := by
  refine ok_bind (h.mono fun z ρ1 ⟨cn, ps, e, hf, hl, k⟩ => ?_)
  rw [e]
  show Ok (if fldNames.contains f = true ∧ ps.length < 900 then Out.ok MW.Fl.nx (ρ1.set i (some (insD cn (putFld f z ps)))) else .bad) PF
  rw [if_pos ⟨hf, hl⟩]
  exact k
theorem ok_sup {dn : Str} {m : List D → Out D} {ms : Ev → Out (List D)} {cn : Str} {ps : List (D × D)} (e : rd ρ 0 = some (insD cn ps)) (hs : supOf cn dn = true) (h : Ok (ms ρ) fun as ρ1 => ∃ d0 d', rd ρ1 0 = some d0 ∧ Ok (m (d0 :: as)) (fun _ zs => zs.getD 0 none = some d') ∧ PF .nx (ρ1.set 0 (some d'))) : Ok (mSup dn m ms ρ) PF := by
  unfold mSup
  rw [e]
  show Ok (if supOf cn dn = true then _ else Out.bad) PF
  rw [if_pos hs]
  refine ok_bind (h.mono fun as ρ1 ⟨d0, d', e1, hm, k⟩ => ?_)
  obtain ⟨z, zs, e2, e3⟩ := hm.eq
  rw [e1]
  show Ok (match m (d0 :: as) with
      | .ok _ zs => (match zs.getD 0 none with | some d' => Out.ok MW.Fl.nx (ρ1.set 0 (some d')) | none => .bad)
      | .err c zs => (match zs.getD 0 none with | some d' => .err c (ρ1.set 0 (some d')) | none => .bad)
      | .bad => .bad) PF
  rw [e2]
  show Ok (match zs.getD 0 none with | some d' => Out.ok MW.Fl.nx (ρ1.set 0 (some d')) | none => .bad) PF
  rw [e3]
  exact k
theorem ok_make {cn : Str} {m : List D → Out D} {ms : Ev → Out (List D)} (h : Ok (ms ρ) fun as ρ1 => ∃ d', Ok (m (insD cn [] :: as)) (fun z zs => z = .none ∧ zs.getD 0 none = some d') ∧ P d' ρ1) : Ok (mMake cn m ms ρ) P := by
  refine ok_bind (h.mono fun as ρ1 ⟨d', hm, k⟩ => ?_)
  obtain ⟨z, zs, e2, rfl, e3⟩ := hm.eq
  rw [e2]
  show Ok (match PyData.none, zs.getD 0 none with | .none, some d' => Out.ok d' ρ1 | _, _ => .bad) P
  rw [e3]
  exact k
theorem ok_propV {m : List D → Out D} {mo : Ev → Out D} (h : Ok (mo ρ) fun d ρ1 => vwIs (fun _ => true) d = true ∧ Ok (m [d]) fun z _ => P z ρ1) : Ok (mPropV m mo ρ) P := by
  refine ok_bind (h.mono fun d ρ1 ⟨hv, hm⟩ => ?_)
  obtain ⟨z, zs, e2, k⟩ := hm.eq
  rw [if_pos hv, e2]
  exact k
theorem ok_methV {Pc : Str → Bool} {m : List D → Out D} {mo : Ev → Out D} {ms : Ev → Out (List D)} (h : Ok (mo ρ) fun d ρ1 => vwIs Pc d = true ∧ Ok (ms ρ1) fun as ρ2 => Ok (m (d :: as)) fun z _ => P z ρ2) : Ok (mMethV Pc m mo ms ρ) P := by
  refine ok_bind (h.mono fun d ρ1 ⟨hv, hm⟩ => ?_)
  rw [if_pos hv]
  refine ok_bind (hm.mono fun as ρ2 k => ?_)
  obtain ⟨z, zs, e2, k⟩ := k.eq
  rw [e2]
  exact k
theorem er_methV {Pc : Str → Bool} {m : List D → Out D} {mo : Ev → Out D} {ms : Ev → Out (List D)} {c : Str} {PE : Ev → Prop} (h : Ok (mo ρ) fun d ρ1 => vwIs Pc d = true ∧ Ok (ms ρ1) fun as ρ2 => Er (m (d :: as)) c fun _ => PE ρ2) : Er (mMethV Pc m mo ms ρ) c PE := by
  refine er_then (h.mono fun d ρ1 ⟨hv, hm⟩ => ?_)
  rw [if_pos hv]
  refine er_then (hm.mono fun as ρ2 k => ?_)
  obtain ⟨zs, e2, k⟩ := k.eq
  rw [e2]
  exact ⟨rfl, k⟩
theorem ok_genV {m : List D → Out (List D)} {mo : Ev → Out D} {ms : Ev → Out (List D)} (h : Ok (mo ρ) fun d ρ1 => vwIs (fun _ => true) d = true ∧ Ok (ms ρ1) fun as ρ2 => Ok (m (d :: as)) fun ys _ => PL ys ρ2) : Ok (mCallGV m mo ms ρ) PL := by
  refine ok_bind (h.mono fun d ρ1 ⟨hv, hm⟩ => ?_)
  rw [if_pos hv]
  refine ok_bind (hm.mono fun as ρ2 k => ?_)
  obtain ⟨z, zs, e2, k⟩ := k.eq
  rw [e2]
  exact k
theorem ok_yf {S : Sg} {me1 me : Ev → Out D} {mi : Ev → Out (List D)} {g : Ev → D → Option Ev} {mt : Ev → Out Bool} (h : Ok (me1 ρ) fun y ρ1 => Ok (mi ρ1) fun items ρ2 => items.length < 1000000 ∧ Ok (genIf g mt me items ρ2) fun ys ρ3 => PL (y :: ys) ρ3) : Ok (mGYF S me1 mi g mt me ρ) PL := by
  refine ok_bind (h.mono fun y ρ1 h => ok_bind (h.mono fun items ρ2 ⟨hl, h⟩ => ?_))
  rw [if_pos hl]
  exact ok_bind h
theorem ok_genIf {α : Type} {enc : α → D} {g : Ev → D → Option Ev} {mt : Ev → Out Bool} {me : Ev → Out D} (p : α → Bool) (f : α → D) (I : Ev → Prop) : ∀ {l : List α} {ρ : Ev}, (∀ x ∈ l, ∀ ρ, I ρ → ∃ ρ1, g ρ (enc x) = some ρ1 ∧ Ok (mt ρ1) fun b ρ2 => b = p x ∧ if b = true then Ok (me ρ2) (fun z ρ3 => z = f x ∧ I ρ3) else I ρ2) → I ρ → Ok (genIf g mt me (l.map enc) ρ) fun ys _ => ys = (l.filter p).map f
  | [], ρ, _, _ => rfl
  | x :: l, ρ, h, h0 => by
    obtain ⟨ρ1, e, k⟩ := h x List.mem_cons_self ρ h0
    have rest := fun ρ (h0 : I ρ) => ok_genIf p f I (l := l) (fun y hy => h y (List.mem_cons_of_mem _ hy)) h0
    refine ok_bind (ok_of e (ok_bind (k.mono ?_)))
    rintro b ρ2 ⟨rfl, hb⟩
    cases hp : p x with
    | true =>
      rw [hp, if_pos rfl] at hb
      rw [if_pos rfl]
      refine ok_bind (hb.mono ?_)
      rintro z ρ3 ⟨rfl, h3⟩
      refine ok_bind ((rest ρ3 h3).mono ?_)
      rintro ys ρ4 rfl
      show f x :: _ = _
      rw [List.filter_cons_of_pos hp, List.map_cons]
    | false =>
      rw [hp, if_neg Bool.false_ne_true] at hb
      rw [if_neg Bool.false_ne_true, List.filter_cons_of_neg (by rw [hp]; exact Bool.false_ne_true)]
      exact rest ρ2 hb
end
section
variable {v : List Nat} {c : Nat} {t : Tb} {cn : Str}
/-- each state alone -/
def alone (v : List Nat) : List (List Nat) := (List.range v.length).map fun s => [s]
theorem alone_pn (v : List Nat) : Pn v v.length (alone v) := by
  refine ⟨?_, fun q hq => ?_, fun q hq => ?_, fun q hq a ha b hb _ => ?_⟩
  · have : (alone v).flatten = List.range v.length := by
      unfold alone
      have key : ∀ l : List Nat, (l.map fun s => [s]).flatten = l := by
        intro l
        induction l with
        | nil => rfl
        | cons a l ih => rw [List.map_cons, List.flatten_cons, ih]; rfl
      exact key _
    rw [this]
  · obtain ⟨s, _, rfl⟩ := List.mem_map.mp hq; simp
  · obtain ⟨s, _, rfl⟩ := List.mem_map.mp hq; simp
  · obtain ⟨s, _, rfl⟩ := List.mem_map.mp hq
    rw [List.mem_singleton.mp ha, List.mem_singleton.mp hb]
theorem alone_sort (v : List Nat) : sortT (alone v) = alone v := by
  refine sortT_of ?_
  unfold alone
  rw [List.pairwise_map]
  refine List.pairwise_lt_range.imp fun {a b} h => ?_
  unfold leN
  exact decide_eq_true (List.le_of_lt (List.Lex.rel h))
theorem view_init_ok (hv : Vw v c) : Ok (m_View___init__ [insD cn [], tD v]) (fun z os => z = .none ∧ os.getD 0 none = some (VO cn v (tabQ v c (alone v)))) := by
  have h9 := hv.2.1
  refine ok_def (ρ0 := [some (insD cn []), some (tD v), none]) (by rfl) ?_
  unfold mb_View___init__
  refine ok_seq (ok_drop (ok_callD (ok_cons (ok_var (d := tD v) rfl (ok_nil ⟨_, rfl, ?_⟩)))))
  refine (need_view hv).mono ?_
  rintro z os rfl
  refine then_nx ?_
  refine ok_at (ρ' := [some (insD cn []), some (tD v), none]) rfl ?_
  refine ok_seq (ok_setFld (ok_var (d := tD v) rfl ⟨cn, [], rfl, by decide, by simp, then_nx ?_⟩))
  refine ok_at (ρ' := [some (insD cn [(.str "_shown", tD v)]), some (tD v), none]) rfl ?_
  refine ok_setFld (ok_callD (ok_cons (ok_var (d := tD v) rfl (ok_cons (ok_call (ok_cons (ok_lst (ok_lc (ok_range1 (ok_cons (ok_call (ok_cons (ok_var (d := tD v) rfl (ok_nil ⟨_, gLenT_ok, ok_nil ⟨_, rfl, ?_, ?_⟩⟩))))))))))))))
  · rw [List.length_map]; omega
  rw [List.length_map, Int.toNat_natCast, rangeD_nD]
  refine (comp_map (l := List.range v.length) (enc := nD) (fun s => tD [s]) fun s _ => ⟨[some (insD cn [(.str "_shown", tD v)]), some (tD v), some (nD s)], rfl, ok_tup (ok_cons (ok_var (d := nD s) rfl (ok_nil ⟨rfl, rfl⟩)))⟩).mono ?_
  rintro ys ρ ⟨rfl, rfl⟩
  have e : ((List.range v.length).map fun s => tD [s]) = (alone v).map tD := by unfold alone; rw [List.map_map]; rfl
  rw [e]
  refine ok_nil ⟨_, gTupleOf_ok, ok_nil ⟨_, rfl, ?_⟩⟩
  refine (table_of_ok hv (alone_pn v) (alone_sort v)).mono ?_
  rintro z os ⟨rfl, rfl⟩
  refine ⟨cn, [(.str "_shown", tD v)], rfl, by decide, by simp, ?_⟩
  refine defK_nx rfl ⟨rfl, ?_⟩
  show some (insD cn (putFld "_table" (tabD (tabQ v c (alone v))) [(.str "_shown", tD v)])) = _
  have : putFld "_table" (tabD (tabQ v c (alone v))) [(.str "_shown", tD v)] = [(.str "_shown", tD v), (.str "_table", tabD (tabQ v c (alone v)))] := by
    show (if ("_shown" : Str) = "_table" then [(PyData.str "_shown", tabD (tabQ v c (alone v)))] else [(.str "_shown", tD v), (.str "_table", tabD (tabQ v c (alone v)))]) = _
    rw [if_neg (by decide)]
  rw [this]; rfl
theorem put_table (cn : Str) (v : List Nat) (t u : Tb) : insD cn (putFld "_table" (tabD u) [(.str "_shown", tD v), (.str "_table", tabD t)]) = VO cn v u := by
  have : putFld "_table" (tabD u) [(.str "_shown", tD v), (.str "_table", tabD t)] = [(.str "_shown", tD v), (.str "_table", tabD u)] := by
    show (if ("_shown" : Str) = "_table" then _ else (PyData.str "_shown", tD v) :: if ("_table" : Str) = "_table" then [(PyData.str "_table", tabD u)] else _) = _
    rw [if_neg (by decide), if_pos rfl]
  rw [this]; rfl
theorem table_init_ok (hv : Vw v c) (hs : Sound v c t) (hcn : supOf cn "TableView" = true) : Ok (m_TableView___init__ [insD cn [], tD v, tabD t]) (fun z os => z = .none ∧ os.getD 0 none = some (VO cn v t)) := by
  refine ok_def (ρ0 := [some (insD cn []), some (tD v), some (tabD t)]) (by rfl) ?_
  unfold mb_TableView___init__
  refine ok_seq (ok_drop (ok_callD (ok_cons (ok_var (d := tD v) rfl (ok_cons (ok_var (d := tabD t) rfl (ok_nil ⟨_, rfl, ?_⟩)))))))
  refine (need_sound_ok hv hs).mono ?_
  rintro z os ⟨rfl, rfl⟩
  refine then_nx ?_
  refine ok_at (ρ' := [some (insD cn []), some (tD v), some (tabD t)]) rfl ?_
  refine ok_seq (ok_sup (cn := cn) (ps := []) rfl hcn (ok_cons (ok_var (d := tD v) rfl (ok_nil ⟨insD cn [], VO cn v (tabQ v c (alone v)), rfl, ?_, then_nx ?_⟩))))
  · exact (view_init_ok hv).mono fun z os h => h.2
  refine ok_at (ρ' := [some (VO cn v (tabQ v c (alone v))), some (tD v), some (tabD t)]) rfl ?_
  refine ok_setFld (ok_var (d := tabD t) rfl ⟨cn, _, rfl, by decide, by simp, ?_⟩)
  rw [put_table]
  exact defK_nx rfl ⟨rfl, rfl⟩
end
end Pf
namespace Pf
open PySem MW
def Zs (v : List Nat) : List Nat := (List.range v.length).filter fun s => v.getD s 0 == 0
def Os (v : List Nat) : List Nat := (List.range v.length).filter fun s => !(v.getD s 0 == 0)
theorem zo_perm (v : List Nat) : (Zs v ++ Os v).Perm (List.range v.length) := List.filter_append_perm _ _
theorem zo_nodup (v : List Nat) : (Zs v ++ Os v).Nodup := (zo_perm v).nodup_iff.mpr List.nodup_range
structure Sd (v : List Nat) (k : Nat) (js : List (List Nat)) : Prop where
  len : js.length = (Zs v).length
  perm : js.flatten.Perm (Zs v ++ (Os v).take k)
  dif : ∀ q ∈ js, Dif v q
  seed : ∀ i (h : i < js.length) (hz : i < (Zs v).length), ∃ u, js[i] = (Zs v)[i] :: u ∧ u.Sublist ((Os v).take k)
section
variable {v : List Nat} {k : Nat} {js : List (List Nat)}
theorem Sd.nodup (h : Sd v k js) : js.flatten.Nodup := h.perm.nodup_iff.mpr ((zo_nodup v).sublist ((List.Sublist.refl _).append (List.take_sublist _ _)))
/-- the last state taken out again -/
def out (x : Nat) (js : List (List Nat)) : List (List Nat) := js.map fun q => q.filter fun y => !(y == x)
end
end Pf
namespace Pf
open PySem MW
section
variable {v : List Nat} {c : Nat} {js ks : List (List Nat)}
abbrev Fl (v : List Nat) (js : List (List Nat)) : Prop := Sd v (Os v).length js
end
end Pf
namespace Pf
open PySem MW
section
variable {v : List Nat} {c : Nat}
theorem ok_defG {n : Nat} {mb : Ev → Out (List D)} {ds : List D} {P : List D → Ev → Prop} (h : Ok (mb (ds.map some ++ List.replicate (n - ds.length) none)) fun ys _ => P ys (List.replicate ds.length none)) : Ok (mDefG n mb ds) P := by
  obtain ⟨ys, ρ, e, p⟩ := h.eq
  unfold mDefG
  rw [e]
  exact p
theorem ok_gseq {m : Ev → Out MW.Fl} {n : Ev → Out (List D)} {ρ : Ev} {P : List D → Ev → Prop} (h : Ok (m ρ) fun fl ρ1 => fl = .nx ∧ Ok (n ρ1) P) : Ok (mGSeq m n ρ) P := ok_bind (h.mono fun fl ρ1 ⟨e, k⟩ => by subst e; exact k)
end
end Pf
namespace Pf
open PySem MW
section
variable {v : List Nat} {c : Nat} {t : Tb} {cn : Str} {s w : Nat}
theorem view_shown_ok : Ok (m_View_shown [VO cn v t]) (fun z _ => z = tD v) := by
  refine ok_def (ρ0 := [some (VO cn v t)]) (by rfl) ?_
  unfold mb_View_shown
  exact ok_ret (ok_un (ok_var (d := VO cn v t) rfl ⟨_, fld_shown cn v t, defK_rt rfl rfl⟩))
theorem view_table_ok : Ok (m_View_table [VO cn v t]) (fun z _ => z = tabD t) := by
  refine ok_def (ρ0 := [some (VO cn v t)]) (by rfl) ?_
  unfold mb_View_table
  exact ok_ret (ok_un (ok_var (d := VO cn v t) rfl ⟨_, fld_table cn v t, defK_rt rfl rfl⟩))
theorem view_parts_ok {js : List (List Nat)} (hv : Vw v c) (hj : Pn v v.length js) (hs : sortT js = js) (tj : TabOf v c js t) : Ok (m_View_parts [VO cn v t]) (fun z _ => z = pD js) := by
  refine ok_def (ρ0 := [some (VO cn v t)]) (by rfl) ?_
  unfold mb_View_parts
  refine ok_ret (ok_callD (ok_cons (ok_un (ok_var (d := VO cn v t) rfl ⟨_, fld_shown cn v t, ok_cons (ok_un (ok_var (d := VO cn v t) rfl ⟨_, fld_table cn v t, ok_nil ⟨_, rfl, ?_⟩⟩))⟩))))
  refine (parts_back hv hj hs tj).mono ?_
  rintro z os ⟨rfl, rfl⟩
  exact defK_rt rfl rfl
theorem need_value_ok (hv : Vw v c) (hw : w < c) : Ok (m_need_value [tD v, nD w]) (fun z os => os = [none, none]) := by
  refine ok_def (ρ0 := [some (tD v), some (nD w)]) (by rfl) ?_
  unfold mb_need_value
  refine ok_ifS (ok_notB (ok_tru (ok_callD (ok_cons (ok_var (d := nD w) rfl (ok_cons (ok_callD (ok_cons (ok_var (d := tD v) rfl (ok_nil ⟨_, rfl, ?_⟩)))))))))) 
  refine (count_ok hv).mono ?_
  rintro z os ⟨rfl, rfl⟩
  refine ok_nil ⟨_, rfl, ?_⟩
  refine (below_ok (w : Int) (c : Int) (by omega) (by omega)).mono ?_
  rintro z os ⟨rfl, rfl⟩
  exact ⟨true, rfl, L2.iteF (ok_next (defK_nx rfl rfl))⟩
theorem need_state_at (hs : s < v.length) : Ok (m_need_state [tD v, nD s]) (fun z os => os = [none, none]) := Pf.need_state_ok hs
theorem row_ix (ht : Tab v.length c t) (hs : s < v.length) : gIx (tabD t) (nD s) = some (rD (t[s]'(by rw [ht.1]; exact hs))) := by
  have hs2 : s < t.length := by rw [ht.1]; exact hs
  exact gIxT_ok (by rw [List.getElem?_map, List.getElem?_eq_getElem hs2]; rfl)
theorem cell_ix2 (ht : Tab v.length c t) (hs : s < v.length) (hw : w < c) : gIx (rD (t[s]'(by rw [ht.1]; exact hs))) (nD w) = some (oD (cell t s w)) := by
  have hs2 : s < t.length := by rw [ht.1]; exact hs
  have hw2 : w < t[s].length := by rw [(ht.2 _ (List.getElem_mem hs2)).1]; exact hw
  rw [cell_at hs2 hw2]
  exact gIxT_ok (by rw [List.getElem?_map, List.getElem?_eq_getElem hw2]; rfl)
/-- a write that leads somewhere -/
theorem written_ok {o : Nat} (ht : Tab v.length c t) (hs : s < v.length) (hw : w < c) (e : cell t s w = some o) : Ok (m_written [tabD t, nD s, nD w]) (fun z os => z = nD o ∧ os = [none, none, none]) := by
  refine ok_def (ρ0 := [some (tabD t), some (nD s), some (nD w), none]) (by rfl) ?_
  unfold mb_written
  refine ok_seq (ok_set (ok_bin (ok_bin (ok_var (d := tabD t) rfl (ok_var (d := nD s) rfl ⟨_, row_ix ht hs, ok_var (d := nD w) rfl ⟨_, cell_ix2 ht hs hw, then_nx ?_⟩⟩)))))
  rw [e]
  refine ok_at (ρ' := [some (tabD t), some (nD s), some (nD w), some (nD o)]) rfl ?_
  exact ok_seq (ok_ifS (ok_test (ok_var (d := nD o) rfl (ok_c ⟨false, rfl, L2.iteF (ok_next (then_nx (ok_ret (ok_var (d := nD o) rfl (defK_rt rfl ⟨rfl, rfl⟩)))))⟩))))
theorem written_no (ht : Tab v.length c t) (hs : s < v.length) (hw : w < c) (e : cell t s w = none) : Er (m_written [tabD t, nD s, nD w]) "Refused" (fun os => os = [none, none, none]) := by
  refine er_def ?_
  show Er (mb_written [some (tabD t), some (nD s), some (nD w), none]) _ _
  unfold mb_written
  refine er_seq2 (ok_set (ok_bin (ok_bin (ok_var (d := tabD t) rfl (ok_var (d := nD s) rfl ⟨_, row_ix ht hs, ok_var (d := nD w) rfl ⟨_, cell_ix2 ht hs hw, rfl, ?_⟩⟩)))))
  rw [e]
  refine er_seq (er_ifY ?_)
  exact ok_test (ok_var (d := .none) rfl (ok_c ⟨true, rfl, rfl, ⟨rfl, rfl, rfl⟩⟩))
theorem view_value_ok (hs : s < v.length) : Ok (m_View_value_at [VO cn v t, nD s]) (fun z _ => z = nD (v.getD s 0)) := by
  refine ok_def (ρ0 := [some (VO cn v t), some (nD s)]) (by rfl) ?_
  unfold mb_View_value_at
  refine ok_seq (ok_drop (ok_callD (ok_cons (ok_un (ok_var (d := VO cn v t) rfl ⟨_, fld_shown cn v t, ok_cons (ok_var (d := nD s) rfl (ok_nil ⟨_, rfl, ?_⟩))⟩)))))
  refine (need_state_at hs).mono ?_
  rintro z os rfl
  refine then_nx ?_
  refine ok_at (ρ' := [some (VO cn v t), some (nD s)]) rfl ?_
  refine ok_ret (ok_bin (ok_un (ok_var (d := VO cn v t) rfl ⟨_, fld_shown cn v t, ok_var (d := nD s) rfl ⟨_, gIxT_ok (nD_at hs), defK_rt rfl ?_⟩⟩)))
  rw [List.getD_eq_getElem?_getD, List.getElem?_eq_getElem hs]; rfl
/-- a row's entries with their places -/
theorem zip_range (r : List (Option Nat)) : r.zipIdx = (List.range r.length).map fun i => (r.getD i none, i) := by
  refine List.ext_getElem (by simp) fun i h1 h2 => ?_
  rw [List.getElem_zipIdx, List.getElem_map, List.getElem_range, List.getD_eq_getElem?_getD, List.getElem?_eq_getElem (by simpa using h1)]
  simp
theorem row_getD (ht : Tab v.length c t) (hs : s < v.length) (w : Nat) (hw : w < c) : (t[s]'(by rw [ht.1]; exact hs)).getD w none = cell t s w := by
  have hs2 : s < t.length := by rw [ht.1]; exact hs
  have hw2 : w < t[s].length := by rw [(ht.2 _ (List.getElem_mem hs2)).1]; exact hw
  rw [cell_at hs2 hw2, List.getD_eq_getElem?_getD, List.getElem?_eq_getElem hw2]; rfl
def mayL (t : Tb) (c s : Nat) : List Nat := (List.range c).filter fun w => (cell t s w).isSome
theorem view_may_ok (ht : Tab v.length c t) (hs : s < v.length) : Ok (m_View_may [VO cn v t, nD s]) (fun z _ => z = tD (mayL t c s)) := by
  have hs2 : s < t.length := by rw [ht.1]; exact hs
  have hl : t[s].length = c := (ht.2 _ (List.getElem_mem hs2)).1
  refine ok_def (ρ0 := [some (VO cn v t), some (nD s), none, none]) (by rfl) ?_
  unfold mb_View_may
  refine ok_seq (ok_drop (ok_callD (ok_cons (ok_un (ok_var (d := VO cn v t) rfl ⟨_, fld_shown cn v t, ok_cons (ok_var (d := nD s) rfl (ok_nil ⟨_, rfl, ?_⟩))⟩)))))
  refine (need_state_at hs).mono ?_
  rintro z os rfl
  refine then_nx ?_
  refine ok_at (ρ' := [some (VO cn v t), some (nD s), none, none]) rfl ?_
  refine ok_ret (ok_call (ok_cons (ok_lst (ok_lc (ok_enum (ok_cons (ok_bin (ok_un (ok_var (d := VO cn v t) rfl ⟨_, fld_table cn v t, ok_var (d := nD s) rfl ⟨_, row_ix ht hs, ok_nil ⟨t[s].map oD, .inr rfl, ?_⟩⟩⟩)))))))))
  rw [enumD_nD]
  have hg := fun i hi => row_getD ht hs i (by rw [← hl]; exact hi)
  generalize t[s] = r at hl hg
  refine (comp_filter (enc := fun p : Option Nat × Nat => .tuple [nD p.2, oD p.1]) (fun p => p.1.isSome) (fun p => nD p.2) (l := r.zipIdx) fun p hp => ?_).mono ?_
  · refine ⟨[some (VO cn v t), some (nD s), some (nD p.2), some (oD p.1)], rfl, ?_⟩
    refine ok_test (ok_var (d := oD p.1) rfl (ok_c ⟨p.1.isSome, bIsNot_oD _, rfl, ?_⟩))
    cases p.1.isSome with
    | false => exact L2.iteF rfl
    | true => exact L2.iteT (ok_var (d := nD p.2) rfl ⟨rfl, rfl⟩)
  rintro ys ρ ⟨rfl, rfl⟩
  refine ok_nil ⟨_, gTupleOf_ok, defK_rt rfl ?_⟩
  have e : ((r.zipIdx.filter fun p => p.1.isSome).map fun p => nD p.2) = (mayL t c s).map nD := by
    rw [zip_range, List.filter_map, List.map_map, hl]
    unfold mayL
    have : ((List.range c).filter ((fun p : Option Nat × Nat => p.1.isSome) ∘ fun i => (r.getD i none, i))) = (List.range c).filter fun w => (cell t s w).isSome := by
      refine List.filter_congr fun w hw => ?_
      have hw := List.mem_range.mp hw
      show (r.getD w none).isSome = _
      rw [hg w (by rw [hl]; exact hw)]
    rw [this]
    rfl
  rw [e]
theorem res_part {js : List (List Nat)} (hv : Vw v c) (hj : Pn v v.length js) (tj : TabOf v c js t) {q : List Nat} (hq : q ∈ js) (hsq : s ∈ q) : resR (t[s]'(by rw [tj.tab.1]; exact hj.lt hq hsq)) = q := by
  have hsl := hj.lt hq hsq
  have hs2 : s < t.length := by rw [tj.tab.1]; exact hsl
  have key : ∀ x, x ∈ resR t[s] ↔ x ∈ q := fun x => by
    rw [mem_res tj.tab hs2]
    constructor
    · rintro ⟨w, hw, e⟩
      obtain ⟨q2, hq2, s2, o2, _⟩ := (tj.is s w hsl hw x).mp e
      rw [hj.uni hq hq2 hsq s2]
      exact o2
    · intro hx
      have hxl := hj.lt hq hx
      exact ⟨v.getD x 0, vw_getD hv hxl, (tj.is s _ hsl (vw_getD hv hxl) x).mpr ⟨q, hq, hsq, hx, rfl⟩⟩
  have nd : (resR t[s]).Nodup := by
    have hp : (resR t[s]).Perm (t[s].filterMap id) := sortN_perm _
    rw [hp.nodup_iff, List.nodup_iff_pairwise_ne, List.pairwise_filterMap]
    refine List.pairwise_iff_getElem.mpr fun i j h1 h2 hlt b hb b' hb' e => ?_
    have hb : t[s][i] = some b := hb
    have hb' : t[s][j] = some b' := hb'
    subst e
    have hl := (tj.tab.2 _ (List.getElem_mem hs2)).1
    have e1 : cell t s i = some b := by rw [cell_at hs2 h1]; exact hb
    have e2 : cell t s j = some b := by rw [cell_at hs2 h2]; exact hb'
    obtain ⟨_, _, _, _, z1⟩ := (tj.is s i hsl (by omega) b).mp e1
    obtain ⟨_, _, _, _, z2⟩ := (tj.is s j hsl (by omega) b).mp e2
    omega
  refine nums_unique ((List.perm_ext_iff_of_nodup nd ((hj.asc q hq).imp fun h => Nat.ne_of_lt h)).mpr key) (sortN_sorted _) ((hj.asc q hq).imp fun h => Nat.le_of_lt h)
theorem view_reach_ok {js : List (List Nat)} (hv : Vw v c) (hj : Pn v v.length js) (tj : TabOf v c js t) {q : List Nat} (hq : q ∈ js) (hsq : s ∈ q) : Ok (m_View_reachable [VO cn v t, nD s]) (fun ys _ => ys = (s :: q.filter fun o => !(o == s)).map nD) := by
  have hs := hj.lt hq hsq
  have hs2 : s < t.length := by rw [tj.tab.1]; exact hs
  have h9 := hv.2.1
  refine ok_defG ?_
  show Ok (mb_View_reachable [some (VO cn v t), some (nD s), none, none]) _
  unfold mb_View_reachable
  refine ok_gseq (ok_drop (ok_callD (ok_cons (ok_un (ok_var (d := VO cn v t) rfl ⟨_, fld_shown cn v t, ok_cons (ok_var (d := nD s) rfl (ok_nil ⟨_, rfl, ?_⟩))⟩)))))
  refine (need_state_at hs).mono ?_
  rintro z os rfl
  refine ⟨rfl, ?_⟩
  refine ok_yf (ok_var (d := nD s) rfl (ok_seqD (ok_lst (ok_callL (ok_cons (ok_lst (ok_lc (ok_seqD (ok_bin (ok_un (ok_var (d := VO cn v t) rfl ⟨_, fld_table cn v t, ok_var (d := nD s) rfl ⟨_, row_ix tj.tab hs, _, rfl, ?_⟩⟩)))))))))))
  have er := res_part hv hj tj hq hsq
  have hql := hj.len hq
  generalize t[s] = r at er
  refine (comp_filter (enc := oD) (fun e => e.isSome) oD (l := r) fun e he => ?_).mono ?_
  · refine ⟨[some (VO cn v t), some (nD s), none, some (oD e)], rfl, ?_⟩
    refine ok_test (ok_var (d := oD e) rfl (ok_c ⟨e.isSome, bIsNot_oD e, rfl, ?_⟩))
    cases e with
    | none => exact L2.iteF rfl
    | some i => exact L2.iteT (ok_var (d := oD (some i)) rfl ⟨rfl, rfl⟩)
  rintro ys ρ ⟨rfl, rfl⟩
  have e : (r.filter fun e => e.isSome).map oD = (r.filterMap id).map nD := by
    clear er
    induction r with
    | nil => rfl
    | cons x r ih => cases x <;> simp_all [oD]
  rw [e]
  refine ok_nil ⟨_, sort_nums _, _, rfl, ?_⟩
  have er : sortN (r.filterMap id) = q := er
  rw [er]
  refine ⟨by rw [List.length_map]; omega, ?_⟩
  refine (ok_genIf (enc := nD) (fun o => !(o == s)) nD (fun ρ => ∃ x, ρ = [some (VO cn v t), some (nD s), x, none]) (l := q) (fun o ho ρ hρ => ?_) ⟨none, rfl⟩).mono ?_
  · obtain ⟨x, rfl⟩ := hρ
    refine ⟨[some (VO cn v t), some (nD s), some (nD o), none], rfl, ?_⟩
    refine ok_test (ok_var (d := nD o) rfl (ok_var (d := nD s) rfl ⟨_, bNe_nD o s, rfl, ?_⟩))
    cases (!(o == s)) with
    | true => rw [if_pos rfl]; exact ok_var (d := nD o) rfl ⟨rfl, _, rfl⟩
    | false => rw [if_neg Bool.false_ne_true]; exact ⟨_, rfl⟩
  · rintro ys ρ rfl
    rw [List.map_cons]
end
end Pf
namespace Pf
open PySem MW
section
variable {v : List Nat} {c : Nat} {t : Tb} {cn : Str} {s w : Nat}
/-- what a write is told as -/
def putD44 (o : Option Nat) : D := match o with
  | some o => nD o
  | none => .str "refused"
theorem view_put_ok {o : Nat} (hv : Vw v c) (ht : Tab v.length c t) (hs : s < v.length) (hw : w < c) (e : cell t s w = some o) : Ok (m_View_put [VO cn v t, nD s, nD w]) (fun z _ => z = nD o) := by
  refine ok_def (ρ0 := [some (VO cn v t), some (nD s), some (nD w)]) (by rfl) ?_
  unfold mb_View_put
  refine ok_seq (ok_drop (ok_callD (ok_cons (ok_un (ok_var (d := VO cn v t) rfl ⟨_, fld_shown cn v t, ok_cons (ok_var (d := nD s) rfl (ok_nil ⟨_, rfl, ?_⟩))⟩)))))
  refine (need_state_at hs).mono ?_
  rintro z os rfl
  refine then_nx ?_
  refine ok_at (ρ' := [some (VO cn v t), some (nD s), some (nD w)]) rfl ?_
  refine ok_seq (ok_drop (ok_callD (ok_cons (ok_un (ok_var (d := VO cn v t) rfl ⟨_, fld_shown cn v t, ok_cons (ok_var (d := nD w) rfl (ok_nil ⟨_, rfl, ?_⟩))⟩)))))
  refine (need_value_ok hv hw).mono ?_
  rintro z os rfl
  refine then_nx ?_
  refine ok_at (ρ' := [some (VO cn v t), some (nD s), some (nD w)]) rfl ?_
  refine ok_ret (ok_callD (ok_cons (ok_un (ok_var (d := VO cn v t) rfl ⟨_, fld_table cn v t, ok_cons (ok_var (d := nD s) rfl (ok_cons (ok_var (d := nD w) rfl (ok_nil ⟨_, rfl, ?_⟩))))⟩))))
  refine (written_ok ht hs hw e).mono ?_
  rintro z os ⟨rfl, rfl⟩
  exact defK_rt rfl rfl
theorem view_put_no (hv : Vw v c) (ht : Tab v.length c t) (hs : s < v.length) (hw : w < c) (e : cell t s w = none) : Er (m_View_put [VO cn v t, nD s, nD w]) "Refused" (fun _ => True) := by
  refine er_def ?_
  show Er (mb_View_put [some (VO cn v t), some (nD s), some (nD w)]) _ _
  unfold mb_View_put
  refine er_seq2 (ok_drop (ok_callD (ok_cons (ok_un (ok_var (d := VO cn v t) rfl ⟨_, fld_shown cn v t, ok_cons (ok_var (d := nD s) rfl (ok_nil ⟨_, rfl, ?_⟩))⟩)))))
  refine (need_state_at hs).mono ?_
  rintro z os rfl
  refine ⟨rfl, ?_⟩
  show Er (mSeq _ _ [some (VO cn v t), some (nD s), some (nD w)]) _ _
  refine er_seq2 (ok_drop (ok_callD (ok_cons (ok_un (ok_var (d := VO cn v t) rfl ⟨_, fld_shown cn v t, ok_cons (ok_var (d := nD w) rfl (ok_nil ⟨_, rfl, ?_⟩))⟩)))))
  refine (need_value_ok hv hw).mono ?_
  rintro z os rfl
  refine ⟨rfl, ?_⟩
  show Er (mRet _ [some (VO cn v t), some (nD s), some (nD w)]) _ _
  refine er_ret (er_callD (ok_cons (ok_un (ok_var (d := VO cn v t) rfl ⟨_, fld_table cn v t, ok_cons (ok_var (d := nD s) rfl (ok_cons (ok_var (d := nD w) rfl (ok_nil ⟨_, rfl, ?_⟩))))⟩))))
  refine (written_no ht hs hw e).mono ?_
  rintro os rfl
  exact ⟨rfl, trivial⟩
theorem law_put44 (hv : Vw v c) (ht : Tab v.length c t) (hcn : viewNames.contains cn = true) (hl : (cn != "LoggedView") = true) (hs : s < v.length) (hw : w < c) : Ok (m__law_put_v3 [VO cn v t, nD s, nD w]) (fun z os => z = putD44 (cell t s w) ∧ os = [none, none, none]) := by
  refine ok_def (ρ0 := [some (VO cn v t), some (nD s), some (nD w)]) (by rfl) ?_
  unfold mb__law_put_v3
  cases e : cell t s w with
  | some o =>
    refine ok_try (ok_ret (ok_methV (ok_var (d := VO cn v t) rfl ⟨VO_vw hcn hl, ok_cons (ok_var (d := nD s) rfl (ok_cons (ok_var (d := nD w) rfl (ok_nil ?_))))⟩)))
    refine (view_put_ok hv ht hs hw e).mono ?_
    rintro z _ rfl
    exact defK_rt rfl ⟨rfl, rfl⟩
  | none =>
    refine ok_try_er (c := "Refused") (PE := fun ρ => ρ = [some (VO cn v t), some (nD s), some (nD w)]) (er_ret (er_methV (ok_var (d := VO cn v t) rfl ⟨VO_vw hcn hl, ok_cons (ok_var (d := nD s) rfl (ok_cons (ok_var (d := nD w) rfl (ok_nil ?_))))⟩))) (by decide) ?_
    · exact (view_put_no hv ht hs hw e).mono fun _ _ => rfl
    · rintro ρ1 rfl
      exact ok_ret (ok_c (defK_rt rfl ⟨rfl, rfl⟩))
end
theorem bNe_sh (d : D) (h : d.canLay0 = true) (k : d.depth ≤ 64) : bNe d d = some false := by
  have hs : SeqAt.shaped d = true := by
    unfold SeqAt.shaped
    rw [h]
    exact decide_eq_true k
  unfold bNe
  rw [if_pos ⟨hs, hs⟩, SeqAt.eqv_refl d h]
  rfl
theorem bEq_sh (d : D) (h : d.canLay0 = true) (k : d.depth ≤ 64) : bEq d d = some true := by
  have hs : SeqAt.shaped d = true := by
    unfold SeqAt.shaped
    rw [h]
    exact decide_eq_true k
  unfold bEq
  rw [if_pos ⟨hs, hs⟩, SeqAt.eqv_refl d h]
theorem depth_all {k : Nat} : ∀ {xs : List D}, (∀ x ∈ xs, x.depth ≤ k) → PyData.depthAll xs ≤ k
  | [], _ => Nat.zero_le _
  | x :: xs, h => by
    simp only [PyData.depthAll]
    have h1 := h x List.mem_cons_self
    have h2 := depth_all (xs := xs) fun y hy => h y (List.mem_cons_of_mem _ hy)
    omega
theorem lay_all : ∀ {xs : List D}, (∀ x ∈ xs, x.canLay0 = true) → PyData.canLayAll0 xs = true
  | [], _ => rfl
  | x :: xs, h => by
    simp only [PyData.canLayAll0, h x List.mem_cons_self, lay_all fun y hy => h y (List.mem_cons_of_mem _ hy), Bool.and_self]
def Sh44 (k : Nat) (d : D) : Prop := d.canLay0 = true ∧ d.depth ≤ k
theorem sh44_tup {k : Nat} {xs : List D} (h : ∀ x ∈ xs, Sh44 k x) : Sh44 (k + 1) (.tuple xs) := by
  refine ⟨?_, ?_⟩
  · simp only [PyData.canLay0]; exact lay_all fun x hx => (h x hx).1
  · simp only [PyData.depth]
    have := depth_all fun x hx => (h x hx).2
    omega
theorem sh44_lst {k : Nat} {xs : List D} (h : ∀ x ∈ xs, Sh44 k x) : Sh44 (k + 1) (.list xs) := by
  refine ⟨?_, ?_⟩
  · simp only [PyData.canLay0]; exact lay_all fun x hx => (h x hx).1
  · simp only [PyData.depth]
    have := depth_all fun x hx => (h x hx).2
    omega
theorem sh44_nD (n : Nat) : Sh44 0 (nD n) := ⟨rfl, Nat.le_refl _⟩
theorem sh44_oD (o : Option Nat) : Sh44 0 (oD o) := by cases o <;> exact ⟨rfl, Nat.le_refl _⟩
theorem sh44_up {k m : Nat} {d : D} (h : Sh44 k d) (hm : k ≤ m) : Sh44 m d := ⟨h.1, Nat.le_trans h.2 hm⟩
theorem sh44_tD (q : List Nat) : Sh44 1 (tD q) := sh44_tup fun x hx => by
  obtain ⟨n, _, rfl⟩ := List.mem_map.mp hx
  exact sh44_nD n
theorem sh44_pD (js : List (List Nat)) : Sh44 2 (pD js) := sh44_tup fun x hx => by
  obtain ⟨n, _, rfl⟩ := List.mem_map.mp hx
  exact sh44_tD n
theorem sh44_tab (t : Tb) : Sh44 2 (tabD t) := sh44_tup fun x hx => by
  obtain ⟨r, _, rfl⟩ := List.mem_map.mp hx
  exact sh44_tup fun x hx => by
    obtain ⟨n, _, rfl⟩ := List.mem_map.mp hx
    exact sh44_oD n
theorem sh44_put (o : Option Nat) : Sh44 0 (putD44 o) := by
  cases o with
  | some n => exact sh44_nD n
  | none => exact ⟨by show PyData.canLay0 (.str "refused") = true; decide +kernel, Nat.le_refl _⟩
theorem bNe_put (o : Option Nat) : bNe (putD44 o) (.str "refused") = some o.isSome := by
  cases o with
  | none => exact bNe_sh _ (sh44_put none).1 (Nat.zero_le _)
  | some n =>
    have h1 : SeqAt.shaped (nD n) = true := rfl
    have h2 : SeqAt.shaped (.str "refused") = true := by decide +kernel
    show bNe (nD n) (.str "refused") = some true
    unfold bNe
    rw [if_pos ⟨h1, h2⟩]
    rfl
section
variable {v : List Nat} {c : Nat} {t : Tb} {cn : Str} {js : List (List Nat)}
set_option maxHeartbeats 2000000 in
theorem answers44 (hv : Vw v c) (hcn : viewNames.contains cn = true) (hl : (cn != "LoggedView") = true) (hj : Pn v v.length js) (hs : sortT js = js) (tj : TabOf v c js t) : Ok (m__law_answers_v2 [VO cn v t, tD v, pD js]) (fun z os => z = .bool true ∧ os = [none, none, none]) := by
  have h9 := hv.2.1
  have hc9 : c ≤ 9 := by have := hv.2.2.1; omega
  have hT : ∀ P : Str → Bool, P cn = true → vwIs P (VO cn v t) = true := fun P hP => VO_vw hcn hP
  refine ok_def (ρ0 := [some (VO cn v t), some (tD v), some (pD js), none, none, none, none, none, none, none, none, none, none]) (by rfl) ?_
  unfold mb__law_answers_v2
  rw [table4]
  refine ok_seq (ok_par (ok_cons (ok_callD (ok_cons (ok_var (d := tD v) rfl (ok_cons (ok_var (d := pD js) rfl (ok_nil ⟨_, rfl, ?_⟩))))))))
  refine (table_ok2 hv hj).mono ?_
  rintro z os ⟨t', rfl, tj', rfl⟩
  have := tj'.uniq tj
  subst this
  refine ok_cons (ok_bin (ok_call (ok_cons (ok_var (d := tD v) rfl (ok_nil ⟨_, max_view hv, ok_c ⟨nD c, by rw [gAdd_ok, Int.sub_add_cancel], ok_nil ⟨_, _, rfl, then_nx ?_⟩⟩⟩)))))
  refine ok_at (ρ' := [some (VO cn v t'), some (tD v), some (pD js), none, some (tabD t'), some (nD c), none, none, none, none, none, none, none]) rfl ?_
  refine ok_seq (ok_ifS (ok_test (ok_tup (ok_cons (ok_propV (ok_var (d := VO cn v t') rfl ⟨hT _ rfl, ?_⟩))))))
  refine view_shown_ok.mono ?_
  rintro z _ rfl
  refine ok_cons (ok_propV (ok_var (d := VO cn v t') rfl ⟨hT _ rfl, ?_⟩))
  refine view_table_ok.mono ?_
  rintro z _ rfl
  refine ok_cons (ok_propV (ok_var (d := VO cn v t') rfl ⟨hT _ rfl, ?_⟩))
  refine (view_parts_ok hv hj hs tj).mono ?_
  rintro z _ rfl
  refine ok_nil (ok_tup (ok_cons (ok_var (d := tD v) rfl (ok_cons (ok_var (d := tabD t') rfl (ok_cons (ok_var (d := pD js) rfl (ok_nil ⟨false, ?_, L2.iteF (ok_next (then_nx ?_))⟩))))))))
  · have : Sh44 3 (.tuple [tD v, tabD t', pD js]) := sh44_tup fun x hx => by
      simp only [List.mem_cons, List.not_mem_nil, or_false] at hx
      rcases hx with rfl | rfl | rfl
      · exact sh44_up (sh44_tD v) (by omega)
      · exact sh44_tab t'
      · exact sh44_pD js
    exact bNe_sh _ this.1 (Nat.le_trans this.2 (by omega))
  refine ok_seq (ok_for (ok_seqD (ok_var (d := pD js) rfl ⟨_, rfl, ?_⟩)))
  refine for_list (enc := tD) (l := js) (fun _ ρ => ∃ x3 x6 x7 x8 x9, ρ = [some (VO cn v t'), some (tD v), some (pD js), x3, some (tabD t'), some (nD c), x6, x7, x8, x9, none, none, none]) ⟨_, _, _, _, _, rfl⟩ ?_ ?_
  · rintro i hi ρ ⟨x3, x6, x7, x8, x9, rfl⟩
    have hq := List.getElem_mem hi
    generalize js[i] = q at hq
    refine ⟨[some (VO cn v t'), some (tD v), some (pD js), some (tD q), some (tabD t'), some (nD c), x6, x7, x8, x9, none, none, none], rfl, ?_⟩
    refine ok_for (ok_seqD (ok_var (d := tD q) rfl ⟨_, rfl, ?_⟩))
    refine for_list (enc := nD) (l := q) (fun _ ρ => ∃ x6 x7 x8 x9, ρ = [some (VO cn v t'), some (tD v), some (pD js), some (tD q), some (tabD t'), some (nD c), x6, x7, x8, x9, none, none, none]) ⟨_, _, _, _, rfl⟩ ?_ ?_
    · rintro k hk ρ ⟨x6, x7, x8, x9, rfl⟩
      have hsq := List.getElem_mem hk
      generalize q[k] = s at hsq
      have hsl := hj.lt hq hsq
      have hs2 : s < t'.length := by rw [tj.tab.1]; exact hsl
      refine ⟨[some (VO cn v t'), some (tD v), some (pD js), some (tD q), some (tabD t'), some (nD c), some (nD s), x7, x8, x9, none, none, none], rfl, ?_⟩
      -- row
      refine ok_seq (ok_set (ok_lst (ok_lc (ok_range1 (ok_cons (ok_var (d := nD c) rfl (ok_nil ⟨_, rfl, by omega, ?_⟩)))))))
      rw [Int.toNat_natCast, rangeD_nD]
      refine (comp_map (l := List.range c) (enc := nD) (fun w => putD44 (cell t' s w)) fun w hw => ⟨[some (VO cn v t'), some (tD v), some (pD js), some (tD q), some (tabD t'), some (nD c), some (nD s), x7, x8, x9, some (nD w), none, none], rfl, ok_callD (ok_cons (ok_var (d := VO cn v t') rfl (ok_cons (ok_var (d := nD s) rfl (ok_cons (ok_var (d := nD w) rfl (ok_nil ⟨_, rfl, ?_⟩)))))))⟩).mono ?_
      · refine (law_put44 hv tj.tab hcn hl hsl (List.mem_range.mp hw)).mono ?_
        rintro z os ⟨rfl, rfl⟩
        exact ⟨rfl, rfl⟩
      rintro ys ρ ⟨rfl, rfl⟩
      refine then_nx ?_
      generalize hR : (List.range c).map (fun w => putD44 (cell t' s w)) = R
      have hRs : ∀ x ∈ R, Sh44 0 x := fun x hx => by
        rw [← hR] at hx
        obtain ⟨w, _, rfl⟩ := List.mem_map.mp hx
        exact sh44_put _
      have hRw : ∀ w, w < c → R[w]? = some (putD44 (cell t' s w)) := fun w hw => by
        rw [← hR, List.getElem?_map, List.getElem?_range hw]; rfl
      refine ok_at (ρ' := [some (VO cn v t'), some (tD v), some (pD js), some (tD q), some (tabD t'), some (nD c), some (nD s), some (.list R), x8, x9, none, none, none]) rfl ?_
      -- due
      refine ok_seq (ok_set (ok_lst (ok_lc (ok_seqD (ok_bin (ok_var (d := tabD t') rfl (ok_var (d := nD s) rfl ⟨_, row_ix tj.tab hsl, _, rfl, ?_⟩)))))))
      refine (comp_map (l := t'[s]) (enc := oD) putD44 fun o ho => ⟨[some (VO cn v t'), some (tD v), some (pD js), some (tD q), some (tabD t'), some (nD c), some (nD s), some (.list R), x8, x9, none, some (oD o), none], rfl, ok_if (ok_test (ok_var (d := oD o) rfl (ok_c ⟨_, bIs_oD o, ?_⟩)))⟩).mono ?_
      · cases o with
        | none => exact L2.iteT (ok_c ⟨rfl, rfl⟩)
        | some n => exact L2.iteF (ok_var (d := nD n) rfl ⟨rfl, rfl⟩)
      rintro ys ρ ⟨rfl, rfl⟩
      have eR : t'[s].map putD44 = R := by
        rw [← hR]
        have hlr : t'[s].length = c := (tj.tab.2 _ (List.getElem_mem hs2)).1
        refine List.ext_getElem (by simp [hlr]) fun w h1 h2 => ?_
        rw [List.getElem_map, List.getElem_map, List.getElem_range, cell_at hs2 (by simpa using h1)]
      rw [eR]
      refine then_nx ?_
      refine ok_at (ρ' := [some (VO cn v t'), some (tD v), some (pD js), some (tD q), some (tabD t'), some (nD c), some (nD s), some (.list R), some (.list R), x9, none, none, none]) rfl ?_
      -- may
      refine ok_seq (ok_set (ok_call (ok_cons (ok_lst (ok_lc (ok_range1 (ok_cons (ok_var (d := nD c) rfl (ok_nil ⟨_, rfl, by omega, ?_⟩)))))))))
      rw [Int.toNat_natCast, rangeD_nD]
      refine (comp_filter (enc := nD) (fun w => (cell t' s w).isSome) nD (l := List.range c) fun w hw => ⟨[some (VO cn v t'), some (tD v), some (pD js), some (tD q), some (tabD t'), some (nD c), some (nD s), some (.list R), some (.list R), x9, some (nD w), none, none], rfl, ok_test (ok_bin (ok_var (d := .list R) rfl (ok_var (d := nD w) rfl ⟨_, gIx_ok (hRw w (List.mem_range.mp hw)), ok_c ⟨_, bNe_put _, rfl, ?_⟩⟩)))⟩).mono ?_
      · cases (cell t' s w).isSome with
        | false => exact L2.iteF rfl
        | true => exact L2.iteT (ok_var (d := nD w) rfl ⟨rfl, rfl⟩)
      rintro ys ρ ⟨rfl, rfl⟩
      refine ok_nil ⟨_, gTupleOf_ok, then_nx ?_⟩
      refine ok_at (ρ' := [some (VO cn v t'), some (tD v), some (pD js), some (tD q), some (tabD t'), some (nD c), some (nD s), some (.list R), some (.list R), some (tD (mayL t' c s)), none, none, none]) rfl ?_
      refine ok_seq (ok_ifS (ok_orB (ok_test (ok_var (d := .list R) rfl (ok_var (d := .list R) rfl ⟨false, ?_, L2.iteF ?_⟩)))))
      · exact bNe_sh _ (sh44_lst hRs).1 (Nat.le_trans (sh44_lst hRs).2 (by omega))
      refine ok_orB (ok_test (ok_methV (ok_var (d := VO cn v t') rfl ⟨hT _ rfl, ok_cons (ok_var (d := nD s) rfl (ok_nil ?_))⟩)))
      refine (view_may_ok tj.tab hsl).mono ?_
      rintro z _ rfl
      refine ok_var (d := tD (mayL t' c s)) rfl ⟨false, bNe_sh _ (sh44_tD _).1 (Nat.le_trans (sh44_tD _).2 (by omega)), L2.iteF ?_⟩
      refine ok_test (ok_methV (ok_var (d := VO cn v t') rfl ⟨hT _ rfl, ok_cons (ok_var (d := nD s) rfl (ok_nil ?_))⟩))
      refine (view_value_ok hsl).mono ?_
      rintro z _ rfl
      refine ok_bin (ok_var (d := tD v) rfl (ok_var (d := nD s) rfl ⟨_, gIxT_ok (nD_at hsl), false, ?_, L2.iteF (ok_next (then_nx ?_))⟩))
      · rw [List.getD_eq_getElem?_getD, List.getElem?_eq_getElem hsl]
        exact bNe_sh _ (sh44_nD _).1 (Nat.zero_le _)
      refine ok_ifS (ok_test (ok_lst (ok_genV (ok_var (d := VO cn v t') rfl ⟨hT _ rfl, ok_cons (ok_var (d := nD s) rfl (ok_nil ?_))⟩))))
      refine (view_reach_ok hv hj tj hq hsq).mono ?_
      rintro ys _ rfl
      refine ok_bin (ok_lst (ok_cons (ok_var (d := nD s) rfl (ok_nil (ok_lst (ok_lc (ok_seqD (ok_var (d := tD q) rfl ⟨_, rfl, ?_⟩))))))))
      refine (comp_filter (enc := nD) (fun o => !(o == s)) nD (l := q) fun o ho => ⟨[some (VO cn v t'), some (tD v), some (pD js), some (tD q), some (tabD t'), some (nD c), some (nD s), some (.list R), some (.list R), some (tD (mayL t' c s)), none, none, some (nD o)], rfl, ok_test (ok_var (d := nD o) rfl (ok_var (d := nD s) rfl ⟨_, bNe_nD o s, rfl, ?_⟩))⟩).mono ?_
      · cases (!(o == s)) with
        | false => exact L2.iteF rfl
        | true => exact L2.iteT (ok_var (d := nD o) rfl ⟨rfl, rfl⟩)
      rintro ys ρ ⟨rfl, rfl⟩
      have hql := hj.len hq
      refine ⟨.list ([nD s] ++ (q.filter fun o => !(o == s)).map nD), ?_, false, ?_, L2.iteF (ok_next ⟨_, _, _, _, rfl⟩)⟩
      · refine gAddL_ok ?_
        have := List.length_filter_le (fun o => !(o == s)) q
        simp only [List.length_map, List.length_singleton]
        omega
      · have e : [nD s] ++ (q.filter fun o => !(o == s)).map nD = (s :: q.filter fun o => !(o == s)).map nD := rfl
        rw [e]
        have : Sh44 1 (.list ((s :: q.filter fun o => !(o == s)).map nD)) := sh44_lst fun x hx => by
          obtain ⟨n, _, rfl⟩ := List.mem_map.mp hx
          exact sh44_nD n
        exact bNe_sh _ this.1 (Nat.le_trans this.2 (by omega))
    · rintro ρ ⟨x6, x7, x8, x9, rfl⟩
      exact ⟨_, _, _, _, _, rfl⟩
  · rintro ρ ⟨x3, x6, x7, x8, x9, rfl⟩
    refine then_nx (ok_ret (ok_bin (ok_tup (ok_cons (ok_propV (ok_var (d := VO cn v t') rfl ⟨hT _ rfl, ?_⟩))))))
    refine view_shown_ok.mono ?_
    rintro z _ rfl
    refine ok_cons (ok_propV (ok_var (d := VO cn v t') rfl ⟨hT _ rfl, ?_⟩))
    refine view_table_ok.mono ?_
    rintro z _ rfl
    refine ok_nil (ok_tup (ok_cons (ok_var (d := tD v) rfl (ok_cons (ok_var (d := tabD t') rfl (ok_nil ⟨.bool true, ?_, defK_rt rfl ⟨rfl, rfl⟩⟩))))))
    have : Sh44 3 (.tuple [tD v, tabD t']) := sh44_tup fun x hx => by
      simp only [List.mem_cons, List.not_mem_nil, or_false] at hx
      rcases hx with rfl | rfl
      · exact sh44_up (sh44_tD v) (by omega)
      · exact sh44_tab t'
    show (bEq _ _).map PyData.bool = _
    rw [bEq_sh _ this.1 (Nat.le_trans this.2 (by omega))]
    rfl
end
theorem law_ok44 (ns : List Int) (hl : ns.length ≤ 63) : Ok (m_law_k44_v2 [.list (ns.map .int)]) (fun z _ => z = .bool true) := by
  refine ok_def (ρ0 := [some (.list (ns.map .int)), none, none, none, none, none]) (by rfl) ?_
  unfold mb_law_k44_v2
  rw [table4, lawParts2]
  refine ok_seq (ok_ifS (ok_test (ok_c (ok_c ⟨false, rfl, L2.iteF (ok_next (then_nx ?_))⟩))))
  refine ok_seq (ok_for (head64 ns hl fun items hit => ?_))
  refine for_inv (fun _ ρ => ∃ x1 x2 x3 x4 x5, ρ = [some (.list (ns.map .int)), x1, x2, x3, x4, x5]) 0 ⟨_, _, _, _, _, rfl⟩ ?_ ?_
  · rintro i e ρ hi ⟨x1, x2, x3, x4, x5, rfl⟩
    obtain ⟨cell, rfl⟩ := hit e (List.mem_of_getElem? hi)
    refine ⟨_, rfl, ?_⟩
    refine ok_at (ρ' := [some (.list (ns.map .int)), some (.int cell), x2, x3, x4, x5]) rfl ?_
    refine ok_seq (ok_setL (ok_callDL (ok_cons (ok_var (d := .int cell) rfl (ok_nil ⟨_, rfl, ?_⟩)))))
    refine (pen_ok cell).mono ?_
    rintro ds os ⟨hp, rfl⟩
    refine then_nx ?_
    generalize PyData.list ds = p at hp
    refine ok_at (ρ' := [some (.list (ns.map .int)), some (.int cell), some p, x3, x4, x5]) rfl ?_
    refine ok_seq (ok_set (ok_callD (ok_lend (d := p) rfl (ok_cons (ok_c (ok_cons (ok_c (ok_nil ⟨_, rfl, ?_⟩))))))))
    refine (viewLH_ok (lw := 1) (up := 9) hp (by omega) (by omega) (by omega) (by omega)).mono ?_
    rintro z os ⟨v, c, p, rfl, hv, hl, rfl, hp⟩
    refine then_nx ?_
    refine ok_at (ρ' := [some (.list (ns.map .int)), some (.int cell), some p, some (tD v), x4, x5]) rfl ?_
    refine ok_seq (ok_set (ok_callD (ok_lend (d := p) rfl (ok_cons (ok_var (d := tD v) rfl (ok_nil ⟨_, rfl, ?_⟩))))))
    refine (parts_ok2 hp (by omega) hv).mono ?_
    rintro z os ⟨js, p, rfl, hj, hs, rfl, hp⟩
    refine then_nx ?_
    refine ok_at (ρ' := [some (.list (ns.map .int)), some (.int cell), some p, some (tD v), some (pD js), x5]) rfl ?_
    refine ok_seq (ok_ifS (ok_notB (ok_tru (ok_callD (ok_cons (ok_make (ok_cons (ok_var (d := tD v) rfl (ok_nil ⟨_, view_init_ok hv, ?_⟩)))))))))
    refine ok_cons (ok_var (d := tD v) rfl (ok_cons (ok_call (ok_cons (ok_lst (ok_lc (ok_range1 (ok_cons (ok_call (ok_cons (ok_var (d := tD v) rfl (ok_nil ⟨_, gLenT_ok, ok_nil ⟨_, rfl, ?_, ?_⟩⟩))))))))))))
    · rw [List.length_map]; omega
    rw [List.length_map, Int.toNat_natCast, rangeD_nD]
    refine (comp_map (l := List.range v.length) (enc := nD) (fun s => tD [s]) fun s _ => ⟨[some (.list (ns.map .int)), some (.int cell), some p, some (tD v), some (pD js), some (nD s)], rfl, ok_tup (ok_cons (ok_var (d := nD s) rfl (ok_nil ⟨rfl, rfl⟩)))⟩).mono ?_
    rintro ys ρ ⟨rfl, rfl⟩
    have e : ((List.range v.length).map fun s => tD [s]) = (alone v).map tD := by unfold alone; rw [List.map_map]; rfl
    rw [e]
    refine ok_nil ⟨_, gTupleOf_ok, ok_nil ⟨_, rfl, ?_⟩⟩
    refine (answers44 (cn := "View") hv (by decide) (by decide) (alone_pn v) (alone_sort v) (tabQ_is (alone_pn v))).mono ?_
    rintro z os ⟨rfl, rfl⟩
    refine ⟨true, rfl, L2.iteF (ok_next (then_nx ?_))⟩
    refine ok_at (ρ' := [some (.list (ns.map .int)), some (.int cell), some p, some (tD v), some (pD js), x5]) rfl ?_
    refine ok_ifS (ok_notB (ok_tru (ok_callD (ok_cons (ok_make (ok_cons (ok_var (d := tD v) rfl (ok_cons (ok_callD (ok_cons (ok_var (d := tD v) rfl (ok_cons (ok_var (d := pD js) rfl (ok_nil ⟨_, rfl, ?_⟩))))))))))))))
    refine (table_ok2 hv hj).mono ?_
    rintro z os ⟨t, rfl, tj, rfl⟩
    refine ok_nil ⟨_, table_init_ok (cn := "TableView") hv (tj.sound hv hj) (by decide), ?_⟩
    refine ok_cons (ok_var (d := tD v) rfl (ok_cons (ok_var (d := pD js) rfl (ok_nil ⟨_, rfl, ?_⟩))))
    refine (answers44 (cn := "TableView") hv (by decide) (by decide) hj hs tj).mono ?_
    rintro z os ⟨rfl, rfl⟩
    refine ⟨true, rfl, L2.iteF (ok_next ⟨_, _, _, _, _, rfl⟩)⟩
  · rintro ρ ⟨x1, x2, x3, x4, x5, rfl⟩
    exact then_nx (ok_ret (ok_c (defK_rt rfl rfl)))
theorem law_holds : ∀ ns : List Int, ns.length ≤ 63 → ∃ zs, m_law_k44_v2 [.list (ns.map PyData.int)] = .ok (.bool true) zs := fun ns hl => by
  obtain ⟨d, zs, e, rfl⟩ := (law_ok44 ns hl).eq
  exact ⟨zs, e⟩
end Pf
namespace Pf
open PySem PySem.Spec PyProof.Rows L2 MW
abbrev topS (i : Nat) : Stmt := PySem.Challenge.pw_writebacks_k44_view_objects_answer.main.body.getD i (.Pass ⟨0, 0, 0, 0⟩)
abbrev metS (i j : Nat) : Stmt := match topS i with | .ClassDef _ _ _ b _ _ _ _ _ _ _ => b.getD j (.Pass ⟨0, 0, 0, 0⟩) | s => s
structure Txt (P : Program) (K : Fg) (mg : Str → Option Value) (adr : Nat → Addr) (fds : Nat → FuncData) : Prop where
  F_is_whole : L2.Fun K "is_whole" "is_whole" (topS 12) (adr 12) (fds 12)
  b_is_whole : Binds K (fds 12) ["thing"] []
  g_is_whole : mg "is_whole" = some (.ref (adr 12))
  F_is_below : L2.Fun K "is_below" "is_below" (topS 13) (adr 13) (fds 13)
  b_is_below : Binds K (fds 13) ["thing", "limit"] []
  g_is_below : mg "is_below" = some (.ref (adr 13))
  F_is_view : L2.Fun K "is_view" "is_view" (topS 16) (adr 16) (fds 16)
  b_is_view : Binds K (fds 16) ["thing"] []
  g_is_view : mg "is_view" = some (.ref (adr 16))
  F_need_view : L2.Fun K "need_view" "need_view" (topS 17) (adr 17) (fds 17)
  b_need_view : Binds K (fds 17) ["view"] []
  g_need_view : mg "need_view" = some (.ref (adr 17))
  F_count_values : L2.Fun K "count_values" "count_values" (topS 18) (adr 18) (fds 18)
  b_count_values : Binds K (fds 18) ["view"] []
  g_count_values : mg "count_values" = some (.ref (adr 18))
  F_need_state : L2.Fun K "need_state" "need_state" (topS 19) (adr 19) (fds 19)
  b_need_state : Binds K (fds 19) ["view", "thing"] []
  g_need_state : mg "need_state" = some (.ref (adr 19))
  F_need_value : L2.Fun K "need_value" "need_value" (topS 20) (adr 20) (fds 20)
  b_need_value : Binds K (fds 20) ["view", "thing"] []
  g_need_value : mg "need_value" = some (.ref (adr 20))
  F__is_row : L2.Fun K "_is_row" "_is_row" (topS 22) (adr 22) (fds 22)
  b__is_row : Binds K (fds 22) ["view", "thing"] []
  g__is_row : mg "_is_row" = some (.ref (adr 22))
  F_is_table : L2.Fun K "is_table" "is_table" (topS 21) (adr 21) (fds 21)
  b_is_table : Binds K (fds 21) ["view", "thing"] []
  g_is_table : mg "is_table" = some (.ref (adr 21))
  F_need_table : L2.Fun K "need_table" "need_table" (topS 23) (adr 23) (fds 23)
  b_need_table : Binds K (fds 23) ["view", "table"] []
  g_need_table : mg "need_table" = some (.ref (adr 23))
  F__broken_forget : L2.Fun K "_broken_forget" "_broken_forget" (topS 27) (adr 27) (fds 27)
  b__broken_forget : Binds K (fds 27) ["table"] []
  g__broken_forget : mg "_broken_forget" = some (.ref (adr 27))
  F__broken_shown : L2.Fun K "_broken_shown" "_broken_shown" (topS 26) (adr 26) (fds 26)
  b__broken_shown : Binds K (fds 26) ["view", "table"] []
  g__broken_shown : mg "_broken_shown" = some (.ref (adr 26))
  F__broken_stay : L2.Fun K "_broken_stay" "_broken_stay" (topS 25) (adr 25) (fds 25)
  b__broken_stay : Binds K (fds 25) ["view", "table"] []
  g__broken_stay : mg "_broken_stay" = some (.ref (adr 25))
  F_broken : L2.Fun K "broken" "broken" (topS 24) (adr 24) (fds 24)
  b_broken : Binds K (fds 24) ["view", "table"] []
  g_broken : mg "broken" = some (.ref (adr 24))
  F_need_sound : L2.Fun K "need_sound" "need_sound" (topS 28) (adr 28) (fds 28)
  b_need_sound : Binds K (fds 28) ["view", "table"] []
  g_need_sound : mg "need_sound" = some (.ref (adr 28))
  F_written : L2.Fun K "written" "written" (topS 29) (adr 29) (fds 29)
  b_written : Binds K (fds 29) ["table", "state", "value"] []
  g_written : mg "written" = some (.ref (adr 29))
  F__is_part : L2.Fun K "_is_part" "_is_part" (topS 32) (adr 32) (fds 32)
  b__is_part : Binds K (fds 32) ["view", "thing"] []
  g__is_part : mg "_is_part" = some (.ref (adr 32))
  F_is_parts : L2.Fun K "is_parts" "is_parts" (topS 31) (adr 31) (fds 31)
  b_is_parts : Binds K (fds 31) ["view", "thing"] []
  g_is_parts : mg "is_parts" = some (.ref (adr 31))
  F__results : L2.Fun K "_results" "_results" (topS 34) (adr 34) (fds 34)
  b__results : Binds K (fds 34) ["row"] []
  g__results : mg "_results" = some (.ref (adr 34))
  F_parts_of : L2.Fun K "parts_of" "parts_of" (topS 33) (adr 33) (fds 33)
  b_parts_of : Binds K (fds 33) ["view", "table"] []
  g_parts_of : mg "parts_of" = some (.ref (adr 33))
  F__row_of : L2.Fun K "_row_of" "_row_of" (topS 36) (adr 36) (fds 36)
  b__row_of : Binds K (fds 36) ["view", "part"] []
  g__row_of : mg "_row_of" = some (.ref (adr 36))
  F_table_of : L2.Fun K "table_of" "table_of" (topS 35) (adr 35) (fds 35)
  b_table_of : Binds K (fds 35) ["view", "parts"] []
  g_table_of : mg "table_of" = some (.ref (adr 35))
  F__law_cell_at : L2.Fun K "_law_cell_at" "_law_cell_at" (topS 48) (adr 48) (fds 48)
  b__law_cell_at : Binds K (fds 48) ["_law_script", "_law_k"] []
  g__law_cell_at : mg "_law_cell_at" = some (.ref (adr 48))
  F__law_pen : L2.Fun K "_law_pen" "_law_pen" (topS 49) (adr 49) (fds 49)
  b__law_pen : Binds K (fds 49) ["_law_cell"] []
  g__law_pen : mg "_law_pen" = some (.ref (adr 49))
  F__law_draw : L2.Fun K "_law_draw" "_law_draw" (topS 50) (adr 50) (fds 50)
  b__law_draw : Binds K (fds 50) ["_law_pen_here", "_law_many"] []
  g__law_draw : mg "_law_draw" = some (.ref (adr 50))
  F__law_view : L2.Fun K "_law_view" "_law_view" (topS 51) (adr 51) (fds 51)
  b__law_view : Binds K (fds 51) ["_law_pen_here", "_law_low", "_law_high"] []
  g__law_view : mg "_law_view" = some (.ref (adr 51))
  F__law_parts : L2.Fun K "_law_parts" "_law_parts" (topS 52) (adr 52) (fds 52)
  b__law_parts : Binds K (fds 52) ["_law_pen_here", "_law_view_here"] []
  g__law_parts : mg "_law_parts" = some (.ref (adr 52))
  F__law_table : L2.Fun K "_law_table" "_law_table" (topS 53) (adr 53) (fds 53)
  b__law_table : Binds K (fds 53) ["_law_view_here", "_law_parts_here"] []
  g__law_table : mg "_law_table" = some (.ref (adr 53))
  F_View_put : L2.Fun K "put" "View.put" ((metS 45 6)) (adr 62) (fds 62)
  b_View_put : Binds K (fds 62) ["self", "state", "value"] []
  m_View_put : Meth K (adr 45) "put" (adr 62)
  F__law_put : L2.Fun K "_law_put" "_law_put" (topS 54) (adr 54) (fds 54)
  b__law_put : Binds K (fds 54) ["_law_thing", "_law_state", "_law_value"] []
  g__law_put : mg "_law_put" = some (.ref (adr 54))
  F_View_may : L2.Fun K "may" "View.may" ((metS 45 7)) (adr 63) (fds 63)
  b_View_may : Binds K (fds 63) ["self", "state"] []
  m_View_may : Meth K (adr 45) "may" (adr 63)
  F_View_parts : L2.Fun K "parts" "View.parts" ((metS 45 4)) (adr 60) (fds 60)
  b_View_parts : Binds K (fds 60) ["self"] []
  p_View_parts : PropOf K (adr 45) "parts" (adr 71) (adr 60)
  F_View_reachable : L2.Fun K "reachable" "View.reachable" ((metS 45 8)) (adr 64) (fds 64)
  b_View_reachable : Binds K (fds 64) ["self", "state"] []
  m_View_reachable : Meth K (adr 45) "reachable" (adr 64)
  F_View_shown : L2.Fun K "shown" "View.shown" ((metS 45 2)) (adr 58) (fds 58)
  b_View_shown : Binds K (fds 58) ["self"] []
  p_View_shown : PropOf K (adr 45) "shown" (adr 69) (adr 58)
  F_View_table : L2.Fun K "table" "View.table" ((metS 45 3)) (adr 59) (fds 59)
  b_View_table : Binds K (fds 59) ["self"] []
  p_View_table : PropOf K (adr 45) "table" (adr 70) (adr 59)
  F_View_value_at : L2.Fun K "value_at" "View.value_at" ((metS 45 5)) (adr 61) (fds 61)
  b_View_value_at : Binds K (fds 61) ["self", "state"] []
  m_View_value_at : Meth K (adr 45) "value_at" (adr 61)
  F__law_answers : L2.Fun K "_law_answers" "_law_answers" (topS 55) (adr 55) (fds 55)
  b__law_answers : Binds K (fds 55) ["_law_thing", "_law_view_here", "_law_parts_here"] []
  g__law_answers : mg "_law_answers" = some (.ref (adr 55))
  F_View___init__ : L2.Fun K "__init__" "View.__init__" ((metS 45 1)) (adr 57) (fds 57)
  b_View___init__ : Binds K (fds 57) ["self", "shown"] []
  F_TableView___init__ : FunS P K "__init__" "TableView.__init__" (metS 46 0) (adr 68) (fds 68) (adr 72) (adr 73) (adr 46)
  b_TableView___init__ : Binds K (fds 68) ["self", "shown", "table"] []
  F_law : L2.Fun K "law" "law" (topS 56) (adr 56) (fds 56)
  b_law : Binds K (fds 56) ["_law_script"] []
  g_law : mg "law" = some (.ref (adr 56))
  g_View : mg "View" = some (.ref (adr 45))
  nd_View : PySem.W.nsIn K mainGlobals "View" = some (some (.ref (adr 45)))
  cl_View : ClsOf K "View" (adr 45)
  mk_View : Mk K (adr 45) (adr 57)
  g_TableView : mg "TableView" = some (.ref (adr 46))
  nd_TableView : PySem.W.nsIn K mainGlobals "TableView" = some (some (.ref (adr 46)))
  cl_TableView : ClsOf K "TableView" (adr 46)
  mk_TableView : Mk K (adr 46) (adr 68)
  nv : PySem.W.nsIn K mainGlobals "View" = some (some (.ref (adr 45)))
  rd_View : ClX.CRead K (adr 45) (.type "type")
  cv_View_LIMIT : ∃ u, ClX.CVal K (adr 45) (.type "type") "LIMIT" (.int 9) u
  opq : PySem.W.nsIn K cStatics "thirdparty.any" = some none
  zsup : mg "super" = none
  top : (P.main.scope.names.lookup ("super" : Str)).isSome = false
  us_TableView___init__ : PySem.W.ks_superIn K (adr 46) (adr 46) "__init__" = some (some (.ref (adr 57)))
  fn_View___init__ : PySem.W.fnIn K (adr 57) = true
  ty_View___init__ : PySem.W.typeIn K (.ref (adr 57)) = some (.type "function")
  d_Refused : PySem.W.hasDictIn K (adr 9) = true
  u_NoParts_Refused : PySem.W.subIn K (.ref (adr 6)) (.ref (adr 9)) = some false
  u_NoState_Refused : PySem.W.subIn K (.ref (adr 7)) (.ref (adr 9)) = some false
  u_NoTable_Refused : PySem.W.subIn K (.ref (adr 4)) (.ref (adr 9)) = some false
  u_NoValue_Refused : PySem.W.subIn K (.ref (adr 8)) (.ref (adr 9)) = some false
  u_NoView_Refused : PySem.W.subIn K (.ref (adr 3)) (.ref (adr 9)) = some false
  u_NotSound_Refused : PySem.W.subIn K (.ref (adr 5)) (.ref (adr 9)) = some false
  u_Refused_Refused : PySem.W.subIn K (.ref (adr 9)) (.ref (adr 9)) = some true
  c_MOST_STATES : ∃ t, mg "MOST_STATES" = some (.int 9 t)
  e_NoParts : mg "NoParts" = some (.ref (adr 6))
  x_NoParts : PySem.W.excIn K (adr 6) [.type "ValueError", .type "Exception", .type "BaseException", .type "object"] "ValueError.__new__" = true
  k_NoParts : PySem.W.keepIn K (.ref (adr 6)) = true
  s_NoParts : PySem.W.subIn K (.ref (adr 6)) (.type "BaseException") = some true
  t_NoParts : PySem.W.typeIn K (.ref (adr 6)) = some (.type "type")
  e_NoState : mg "NoState" = some (.ref (adr 7))
  x_NoState : PySem.W.excIn K (adr 7) [.type "ValueError", .type "Exception", .type "BaseException", .type "object"] "ValueError.__new__" = true
  k_NoState : PySem.W.keepIn K (.ref (adr 7)) = true
  s_NoState : PySem.W.subIn K (.ref (adr 7)) (.type "BaseException") = some true
  t_NoState : PySem.W.typeIn K (.ref (adr 7)) = some (.type "type")
  e_NoTable : mg "NoTable" = some (.ref (adr 4))
  x_NoTable : PySem.W.excIn K (adr 4) [.type "ValueError", .type "Exception", .type "BaseException", .type "object"] "ValueError.__new__" = true
  k_NoTable : PySem.W.keepIn K (.ref (adr 4)) = true
  s_NoTable : PySem.W.subIn K (.ref (adr 4)) (.type "BaseException") = some true
  t_NoTable : PySem.W.typeIn K (.ref (adr 4)) = some (.type "type")
  e_NoValue : mg "NoValue" = some (.ref (adr 8))
  x_NoValue : PySem.W.excIn K (adr 8) [.type "ValueError", .type "Exception", .type "BaseException", .type "object"] "ValueError.__new__" = true
  k_NoValue : PySem.W.keepIn K (.ref (adr 8)) = true
  s_NoValue : PySem.W.subIn K (.ref (adr 8)) (.type "BaseException") = some true
  t_NoValue : PySem.W.typeIn K (.ref (adr 8)) = some (.type "type")
  e_NoView : mg "NoView" = some (.ref (adr 3))
  x_NoView : PySem.W.excIn K (adr 3) [.type "ValueError", .type "Exception", .type "BaseException", .type "object"] "ValueError.__new__" = true
  k_NoView : PySem.W.keepIn K (.ref (adr 3)) = true
  s_NoView : PySem.W.subIn K (.ref (adr 3)) (.type "BaseException") = some true
  t_NoView : PySem.W.typeIn K (.ref (adr 3)) = some (.type "type")
  e_NotSound : mg "NotSound" = some (.ref (adr 5))
  x_NotSound : PySem.W.excIn K (adr 5) [.type "ValueError", .type "Exception", .type "BaseException", .type "object"] "ValueError.__new__" = true
  k_NotSound : PySem.W.keepIn K (.ref (adr 5)) = true
  s_NotSound : PySem.W.subIn K (.ref (adr 5)) (.type "BaseException") = some true
  t_NotSound : PySem.W.typeIn K (.ref (adr 5)) = some (.type "type")
  e_Refused : mg "Refused" = some (.ref (adr 9))
  x_Refused : PySem.W.excIn K (adr 9) [.type "ValueError", .type "Exception", .type "BaseException", .type "object"] "ValueError.__new__" = true
  k_Refused : PySem.W.keepIn K (.ref (adr 9)) = true
  s_Refused : PySem.W.subIn K (.ref (adr 9)) (.type "BaseException") = some true
  t_Refused : PySem.W.typeIn K (.ref (adr 9)) = some (.type "type")
  z_all : mg "all" = none
  z_bool : mg "bool" = none
  z_enumerate : mg "enumerate" = none
  z_int : mg "int" = none
  z_isinstance : mg "isinstance" = none
  z_len : mg "len" = none
  z_list : mg "list" = none
  z_max : mg "max" = none
  z_range : mg "range" = none
  z_set : mg "set" = none
  z_sorted : mg "sorted" = none
  z_tuple : mg "tuple" = none
section
variable {P : Program} {w : World} {K : PySem.W.Frag} {mg : Str → Option Value} {base : Heap} {adr : Nat → Addr} {fds : Nat → FuncData}
abbrev s_is_whole : Stmt := topS 12
theorem sc_is_whole : FnScope N_is_whole ["thing"] (defScope s_is_whole) := ⟨rfl, rfl, rfl, by decide +kernel, rfl, by decide +kernel, by decide +kernel⟩
theorem ok_is_whole {gq : Bool} (T : Txt P K mg adr fds) : FnQ gq P w K mg base 1 (adr 12) (fds 12) ["thing"] (spM K mg [false] m_is_whole) := by
  refine def_ok S_is_whole [false] T.F_is_whole sc_is_whole rfl rfl rfl fun cdv A outer s H E hr => ?_
  have tk : Takes (cxOf (L2.CX P w) P w K mg base N_is_whole "is_whole" (defScope s_is_whole) (adr 12) cdv A outer s H E) (fun c d _ H => E c d H) := takes_of rfl rfl rfl rfl
  exact (mss_one (ms_ret (me_and (me_isinst rfl T.z_isinstance (me_var 0) rfl T.z_int (by decide +kernel) isD_int) (me_one (me_not (me_isinst rfl T.z_isinstance (me_var 0) rfl T.z_bool (by decide +kernel) isD_bool))))))
abbrev s_is_below : Stmt := topS 13
theorem sc_is_below : FnScope N_is_below ["thing", "limit"] (defScope s_is_below) := ⟨rfl, rfl, rfl, by decide +kernel, rfl, by decide +kernel, by decide +kernel⟩
theorem ok_is_below {gq : Bool} (T : Txt P K mg adr fds) : FnQ gq P w K mg base 2 (adr 13) (fds 13) ["thing", "limit"] (spM K mg [false, false] m_is_below) := by
  refine def_ok S_is_below [false, false] T.F_is_below sc_is_below rfl rfl rfl fun cdv A outer s H E hr => ?_
  have tk : Takes (cxOf (L2.CX P w) P w K mg base N_is_below "is_below" (defScope s_is_below) (adr 13) cdv A outer s H E) (fun c d _ H => E c d H) := takes_of rfl rfl rfl rfl
  exact (mss_one (ms_ret (me_and (me_call (ks := [none]) (ok_is_whole T) (hr.mono (by decide)) rfl T.g_is_whole T.F_is_whole.kp T.b_is_whole tk (mac_cons (me_var 0) mac_nil) rfl rfl (by decide)) (me_one (me_leLt me_int (me_var 0) (me_var 1))))))
abbrev s_is_view : Stmt := topS 16
theorem sc_is_view : FnScope N_is_view ["thing"] (defScope s_is_view) := ⟨rfl, rfl, rfl, by decide +kernel, rfl, by decide +kernel, by decide +kernel⟩
theorem ok_is_view {gq : Bool} (T : Txt P K mg adr fds) : FnQ gq P w K mg base 3 (adr 16) (fds 16) ["thing"] (spM K mg [false] m_is_view) := by
  refine def_ok S_is_view [false] T.F_is_view sc_is_view rfl rfl rfl fun cdv A outer s H E hr => ?_
  have tk : Takes (cxOf (L2.CX P w) P w K mg base N_is_view "is_view" (defScope s_is_view) (adr 16) cdv A outer s H E) (fun c d _ H => E c d H) := takes_of rfl rfl rfl rfl
  exact (mss_cons (ms_if (MTw.mt (mtw_or (mt_not (mt_val (me_isinst rfl T.z_isinstance (me_var 0) rfl T.z_tuple (by decide +kernel) isD_tuple))) (mtw_one (mt_not (mt_leLe me_int (me_len rfl T.z_len (ma_cons (me_var 0) ma_nil)) (me_glob (v := .int 9) rfl (T.c_MOST_STATES).choose_spec ⟨_, rfl⟩ (fun _ => .int _)))))))
    (mss_one (ms_ret me_bl))
    mss_nil)
  (mss_cons (ms_if (mt_not (mt_val (me_all rfl rfl T.z_all (ma_cons (ML.me (ml_lc (oS := [("number", 1)]) rfl sc_is_view.nd (mi_seq (me_var 0)) (by first | decide +kernel | rfl) rfl (fun _ _ _ _ _ => (mg_name 1 rfl sc_is_view.nd rfl (by first | exact Or.inl rfl | exact Or.inr rfl) (by first | exact .inl rfl | exact .inr rfl))) (fun _ _ _ _ _ => mts_nil) (fun _ _ _ _ _ => (me_call (ks := [none, none]) (ok_is_below T) (hr.mono (by decide)) rfl T.g_is_below T.F_is_below.kp T.b_is_below takes0 (mac_cons (me_var 1) (mac_cons (me_len rfl T.z_len (ma_cons (me_var 0) ma_nil)) mac_nil)) rfl rfl (by decide))))) ma_nil))))
    (mss_one (ms_ret me_bl))
    mss_nil)
  (mss_one (ms_ret (me_eq hr.units (me_lenSet rfl rfl T.z_len rfl T.z_set (me_var 0)) (me_add (me_max rfl rfl T.z_max (ma_cons (me_var 0) ma_nil)) me_int))))))
abbrev s_need_view : Stmt := topS 17
theorem sc_need_view : FnScope N_need_view ["view"] (defScope s_need_view) := ⟨rfl, rfl, rfl, by decide +kernel, rfl, by decide +kernel, by decide +kernel⟩
theorem ok_need_view {gq : Bool} (T : Txt P K mg adr fds) : FnQ gq P w K mg base 4 (adr 17) (fds 17) ["view"] (spM K mg [false] m_need_view) := by
  refine def_ok S_need_view [false] T.F_need_view sc_need_view rfl rfl rfl fun cdv A outer s H E hr => ?_
  have tk : Takes (cxOf (L2.CX P w) P w K mg base N_need_view "need_view" (defScope s_need_view) (adr 17) cdv A outer s H E) (fun c d _ H => E c d H) := takes_of rfl rfl rfl rfl
  exact (mss_one (ms_if (mt_not (mt_val (me_call (ks := [none]) (ok_is_view T) (hr.mono (by decide)) rfl T.g_is_view T.F_is_view.kp T.b_is_view tk (mac_cons (me_var 0) mac_nil) rfl rfl (by decide))))
    (mss_one (ms_raise rfl tk PySem.F.excBase_ValueError T.x_NoView T.e_NoView T.k_NoView (raises_own T.s_NoView T.t_NoView) rfl))
    mss_nil))
abbrev s_count_values : Stmt := topS 18
theorem sc_count_values : FnScope N_count_values ["view"] (defScope s_count_values) := ⟨rfl, rfl, rfl, by decide +kernel, rfl, by decide +kernel, by decide +kernel⟩
theorem ok_count_values {gq : Bool} (T : Txt P K mg adr fds) : FnQ gq P w K mg base 1 (adr 18) (fds 18) ["view"] (spM K mg [false] m_count_values) := by
  refine def_ok S_count_values [false] T.F_count_values sc_count_values rfl rfl rfl fun cdv A outer s H E hr => ?_
  have tk : Takes (cxOf (L2.CX P w) P w K mg base N_count_values "count_values" (defScope s_count_values) (adr 18) cdv A outer s H E) (fun c d _ H => E c d H) := takes_of rfl rfl rfl rfl
  exact (mss_one (ms_ret (me_add (me_max rfl rfl T.z_max (ma_cons (me_var 0) ma_nil)) me_int)))
abbrev s_need_state : Stmt := topS 19
theorem sc_need_state : FnScope N_need_state ["view", "thing"] (defScope s_need_state) := ⟨rfl, rfl, rfl, by decide +kernel, rfl, by decide +kernel, by decide +kernel⟩
theorem ok_need_state {gq : Bool} (T : Txt P K mg adr fds) : FnQ gq P w K mg base 3 (adr 19) (fds 19) ["view", "thing"] (spM K mg [false, false] m_need_state) := by
  refine def_ok S_need_state [false, false] T.F_need_state sc_need_state rfl rfl rfl fun cdv A outer s H E hr => ?_
  have tk : Takes (cxOf (L2.CX P w) P w K mg base N_need_state "need_state" (defScope s_need_state) (adr 19) cdv A outer s H E) (fun c d _ H => E c d H) := takes_of rfl rfl rfl rfl
  exact (mss_one (ms_if (mt_not (mt_val (me_call (ks := [none, none]) (ok_is_below T) (hr.mono (by decide)) rfl T.g_is_below T.F_is_below.kp T.b_is_below tk (mac_cons (me_var 1) (mac_cons (me_len rfl T.z_len (ma_cons (me_var 0) ma_nil)) mac_nil)) rfl rfl (by decide))))
    (mss_one (ms_raise rfl tk PySem.F.excBase_ValueError T.x_NoState T.e_NoState T.k_NoState (raises_own T.s_NoState T.t_NoState) rfl))
    mss_nil))
abbrev s_need_value : Stmt := topS 20
theorem sc_need_value : FnScope N_need_value ["view", "thing"] (defScope s_need_value) := ⟨rfl, rfl, rfl, by decide +kernel, rfl, by decide +kernel, by decide +kernel⟩
theorem ok_need_value {gq : Bool} (T : Txt P K mg adr fds) : FnQ gq P w K mg base 3 (adr 20) (fds 20) ["view", "thing"] (spM K mg [false, false] m_need_value) := by
  refine def_ok S_need_value [false, false] T.F_need_value sc_need_value rfl rfl rfl fun cdv A outer s H E hr => ?_
  have tk : Takes (cxOf (L2.CX P w) P w K mg base N_need_value "need_value" (defScope s_need_value) (adr 20) cdv A outer s H E) (fun c d _ H => E c d H) := takes_of rfl rfl rfl rfl
  exact (mss_one (ms_if (mt_not (mt_val (me_call (ks := [none, none]) (ok_is_below T) (hr.mono (by decide)) rfl T.g_is_below T.F_is_below.kp T.b_is_below tk (mac_cons (me_var 1) (mac_cons (me_call (ks := [none]) (ok_count_values T) (hr.mono (by decide)) rfl T.g_count_values T.F_count_values.kp T.b_count_values tk (mac_cons (me_var 0) mac_nil) rfl rfl (by decide)) mac_nil)) rfl rfl (by decide))))
    (mss_one (ms_raise rfl tk PySem.F.excBase_ValueError T.x_NoValue T.e_NoValue T.k_NoValue (raises_own T.s_NoValue T.t_NoValue) rfl))
    mss_nil))
abbrev s__is_row : Stmt := topS 22
theorem sc__is_row : FnScope N__is_row ["view", "thing"] (defScope s__is_row) := ⟨rfl, rfl, rfl, by decide +kernel, rfl, by decide +kernel, by decide +kernel⟩
theorem ok__is_row {gq : Bool} (T : Txt P K mg adr fds) : FnQ gq P w K mg base 3 (adr 22) (fds 22) ["view", "thing"] (spM K mg [false, false] m__is_row) := by
  refine def_ok S__is_row [false, false] T.F__is_row sc__is_row rfl rfl rfl fun cdv A outer s H E hr => ?_
  have tk : Takes (cxOf (L2.CX P w) P w K mg base N__is_row "_is_row" (defScope s__is_row) (adr 22) cdv A outer s H E) (fun c d _ H => E c d H) := takes_of rfl rfl rfl rfl
  exact (mss_cons (ms_if (MTw.mt (mtw_or (mt_not (mt_val (me_isinst rfl T.z_isinstance (me_var 1) rfl T.z_tuple (by decide +kernel) isD_tuple))) (mtw_one (mt_ne hr.units (me_len rfl T.z_len (ma_cons (me_var 1) ma_nil)) (me_call (ks := [none]) (ok_count_values T) (hr.mono (by decide)) rfl T.g_count_values T.F_count_values.kp T.b_count_values tk (mac_cons (me_var 0) mac_nil) rfl rfl (by decide))))))
    (mss_one (ms_ret me_bl))
    mss_nil)
  (mss_one (ms_ret (me_all rfl rfl T.z_all (ma_cons (ML.me (ml_lc (oS := [("entry", 2)]) rfl sc__is_row.nd (mi_seq (me_var 1)) (by first | decide +kernel | rfl) rfl (fun _ _ _ _ _ => (mg_name 2 rfl sc__is_row.nd rfl (by first | exact Or.inl rfl | exact Or.inr rfl) (by first | exact .inl rfl | exact .inr rfl))) (fun _ _ _ _ _ => mts_nil) (fun _ _ _ _ _ => (me_or (me_is (me_var 2) me_non) (me_one (me_call (ks := [none, none]) (ok_is_below T) (hr.mono (by decide)) rfl T.g_is_below T.F_is_below.kp T.b_is_below takes0 (mac_cons (me_var 2) (mac_cons (me_len rfl T.z_len (ma_cons (me_var 0) ma_nil)) mac_nil)) rfl rfl (by decide))))))) ma_nil)))))
abbrev s_is_table : Stmt := topS 21
theorem sc_is_table : FnScope N_is_table ["view", "thing"] (defScope s_is_table) := ⟨rfl, rfl, rfl, by decide +kernel, rfl, by decide +kernel, by decide +kernel⟩
theorem ok_is_table {gq : Bool} (T : Txt P K mg adr fds) : FnQ gq P w K mg base 5 (adr 21) (fds 21) ["view", "thing"] (spM K mg [false, false] m_is_table) := by
  refine def_ok S_is_table [false, false] T.F_is_table sc_is_table rfl rfl rfl fun cdv A outer s H E hr => ?_
  have tk : Takes (cxOf (L2.CX P w) P w K mg base N_is_table "is_table" (defScope s_is_table) (adr 21) cdv A outer s H E) (fun c d _ H => E c d H) := takes_of rfl rfl rfl rfl
  exact (mss_cons (ms_expr (me_call (ks := [none]) (ok_need_view T) (hr.mono (by decide)) rfl T.g_need_view T.F_need_view.kp T.b_need_view tk (mac_cons (me_var 0) mac_nil) rfl rfl (by decide)))
  (mss_cons (ms_if (MTw.mt (mtw_or (mt_not (mt_val (me_isinst rfl T.z_isinstance (me_var 1) rfl T.z_tuple (by decide +kernel) isD_tuple))) (mtw_one (mt_ne hr.units (me_len rfl T.z_len (ma_cons (me_var 1) ma_nil)) (me_len rfl T.z_len (ma_cons (me_var 0) ma_nil))))))
    (mss_one (ms_ret me_bl))
    mss_nil)
  (mss_one (ms_ret (me_all rfl rfl T.z_all (ma_cons (ML.me (ml_lc (oS := [("row", 2)]) rfl sc_is_table.nd (mi_seq (me_var 1)) (by first | decide +kernel | rfl) rfl (fun _ _ _ _ _ => (mg_name 2 rfl sc_is_table.nd rfl (by first | exact Or.inl rfl | exact Or.inr rfl) (by first | exact .inl rfl | exact .inr rfl))) (fun _ _ _ _ _ => mts_nil) (fun _ _ _ _ _ => (me_call (ks := [none, none]) (ok__is_row T) (hr.mono (by decide)) rfl T.g__is_row T.F__is_row.kp T.b__is_row takes0 (mac_cons (me_var 0) (mac_cons (me_var 2) mac_nil)) rfl rfl (by decide))))) ma_nil))))))
abbrev s_need_table : Stmt := topS 23
theorem sc_need_table : FnScope N_need_table ["view", "table"] (defScope s_need_table) := ⟨rfl, rfl, rfl, by decide +kernel, rfl, by decide +kernel, by decide +kernel⟩
theorem ok_need_table {gq : Bool} (T : Txt P K mg adr fds) : FnQ gq P w K mg base 6 (adr 23) (fds 23) ["view", "table"] (spM K mg [false, false] m_need_table) := by
  refine def_ok S_need_table [false, false] T.F_need_table sc_need_table rfl rfl rfl fun cdv A outer s H E hr => ?_
  have tk : Takes (cxOf (L2.CX P w) P w K mg base N_need_table "need_table" (defScope s_need_table) (adr 23) cdv A outer s H E) (fun c d _ H => E c d H) := takes_of rfl rfl rfl rfl
  exact (mss_one (ms_if (mt_not (mt_val (me_call (ks := [none, none]) (ok_is_table T) (hr.mono (by decide)) rfl T.g_is_table T.F_is_table.kp T.b_is_table tk (mac_cons (me_var 0) (mac_cons (me_var 1) mac_nil)) rfl rfl (by decide))))
    (mss_one (ms_raise rfl tk PySem.F.excBase_ValueError T.x_NoTable T.e_NoTable T.k_NoTable (raises_own T.s_NoTable T.t_NoTable) rfl))
    mss_nil))
abbrev s__broken_forget : Stmt := topS 27
theorem sc__broken_forget : FnScope N__broken_forget ["table"] (defScope s__broken_forget) := ⟨rfl, rfl, rfl, by decide +kernel, rfl, by decide +kernel, by decide +kernel⟩
theorem ok__broken_forget {gq : Bool} (T : Txt P K mg adr fds) : FnQ gq P w K mg base 1 (adr 27) (fds 27) ["table"] (spM K mg [false] m__broken_forget) := by
  refine def_ok S__broken_forget [false] T.F__broken_forget sc__broken_forget rfl rfl rfl fun cdv A outer s H E hr => ?_
  have tk : Takes (cxOf (L2.CX P w) P w K mg base N__broken_forget "_broken_forget" (defScope s__broken_forget) (adr 27) cdv A outer s H E) (fun c d _ H => E c d H) := takes_of rfl rfl rfl rfl
  exact (mss_cons (ms_for (passes_of rfl) rfl (mi_enum rfl T.z_enumerate (ma_cons (me_var 0) ma_nil)) (mg_twoK (K0 := K) 1 2 rfl rfl rfl rfl (pg_name (i := 1) sc__broken_forget.nd rfl (by first | exact Or.inl rfl | exact Or.inr rfl) (by first | exact .inl rfl | exact .inr rfl)) (pg_name (i := 2) sc__broken_forget.nd rfl (by first | exact Or.inl rfl | exact Or.inr rfl) (by first | exact .inl rfl | exact .inr rfl)))
    (mss_one (ms_for (passes_of rfl) rfl (mi_enum rfl T.z_enumerate (ma_cons (me_var 2) ma_nil)) (mg_twoK (K0 := K) 3 4 rfl rfl rfl rfl (pg_name (i := 3) sc__broken_forget.nd rfl (by first | exact Or.inl rfl | exact Or.inr rfl) (by first | exact .inl rfl | exact .inr rfl)) (pg_name (i := 4) sc__broken_forget.nd rfl (by first | exact Or.inl rfl | exact Or.inr rfl) (by first | exact .inl rfl | exact .inr rfl)))
    (mss_cons (ms_if (mt_is (me_var 4) me_non)
    (mss_one ms_continue)
    mss_nil)
  (mss_one (ms_for (passes_of rfl) rfl (mi_enum rfl T.z_enumerate (ma_cons (me_var 2) ma_nil)) (mg_twoK (K0 := K) 5 6 rfl rfl rfl rfl (pg_name (i := 5) sc__broken_forget.nd rfl (by first | exact Or.inl rfl | exact Or.inr rfl) (by first | exact .inl rfl | exact .inr rfl)) (pg_name (i := 6) sc__broken_forget.nd rfl (by first | exact Or.inl rfl | exact Or.inr rfl) (by first | exact .inl rfl | exact .inr rfl)))
    (mss_one (ms_if (mt_ne hr.units (me_at (me_at (me_var 0) (me_var 4) (fun _ _ => rfl)) (me_var 5) (fun _ _ => rfl)) (me_var 6))
    (mss_one (ms_ret (me_tup (ma_cons me_str (ma_cons (me_var 1) (ma_cons (me_var 3) (ma_cons (me_var 5) ma_nil)))))))
    mss_nil))))))))
  (mss_one (ms_ret me_non)))
abbrev s__broken_shown : Stmt := topS 26
theorem sc__broken_shown : FnScope N__broken_shown ["view", "table"] (defScope s__broken_shown) := ⟨rfl, rfl, rfl, by decide +kernel, rfl, by decide +kernel, by decide +kernel⟩
theorem ok__broken_shown {gq : Bool} (T : Txt P K mg adr fds) : FnQ gq P w K mg base 1 (adr 26) (fds 26) ["view", "table"] (spM K mg [false, false] m__broken_shown) := by
  refine def_ok S__broken_shown [false, false] T.F__broken_shown sc__broken_shown rfl rfl rfl fun cdv A outer s H E hr => ?_
  have tk : Takes (cxOf (L2.CX P w) P w K mg base N__broken_shown "_broken_shown" (defScope s__broken_shown) (adr 26) cdv A outer s H E) (fun c d _ H => E c d H) := takes_of rfl rfl rfl rfl
  exact (mss_cons (ms_for (passes_of rfl) rfl (mi_enum rfl T.z_enumerate (ma_cons (me_var 1) ma_nil)) (mg_twoK (K0 := K) 2 3 rfl rfl rfl rfl (pg_name (i := 2) sc__broken_shown.nd rfl (by first | exact Or.inl rfl | exact Or.inr rfl) (by first | exact .inl rfl | exact .inr rfl)) (pg_name (i := 3) sc__broken_shown.nd rfl (by first | exact Or.inl rfl | exact Or.inr rfl) (by first | exact .inl rfl | exact .inr rfl)))
    (mss_one (ms_for (passes_of rfl) rfl (mi_enum rfl T.z_enumerate (ma_cons (me_var 3) ma_nil)) (mg_twoK (K0 := K) 4 5 rfl rfl rfl rfl (pg_name (i := 4) sc__broken_shown.nd rfl (by first | exact Or.inl rfl | exact Or.inr rfl) (by first | exact .inl rfl | exact .inr rfl)) (pg_name (i := 5) sc__broken_shown.nd rfl (by first | exact Or.inl rfl | exact Or.inr rfl) (by first | exact .inl rfl | exact .inr rfl)))
    (mss_one (ms_if (MTw.mt (mtw_and (mt_isNot (me_var 5) me_non) (mtw_one (mt_ne hr.units (me_at (me_var 0) (me_var 5) (fun _ _ => rfl)) (me_var 4)))))
    (mss_one (ms_ret (me_tup (ma_cons me_str (ma_cons (me_var 2) (ma_cons (me_var 4) ma_nil))))))
    mss_nil)))))
  (mss_one (ms_ret me_non)))
abbrev s__broken_stay : Stmt := topS 25
theorem sc__broken_stay : FnScope N__broken_stay ["view", "table"] (defScope s__broken_stay) := ⟨rfl, rfl, rfl, by decide +kernel, rfl, by decide +kernel, by decide +kernel⟩
theorem ok__broken_stay {gq : Bool} (T : Txt P K mg adr fds) : FnQ gq P w K mg base 1 (adr 25) (fds 25) ["view", "table"] (spM K mg [false, false] m__broken_stay) := by
  refine def_ok S__broken_stay [false, false] T.F__broken_stay sc__broken_stay rfl rfl rfl fun cdv A outer s H E hr => ?_
  have tk : Takes (cxOf (L2.CX P w) P w K mg base N__broken_stay "_broken_stay" (defScope s__broken_stay) (adr 25) cdv A outer s H E) (fun c d _ H => E c d H) := takes_of rfl rfl rfl rfl
  exact (mss_cons (ms_for (passes_of rfl) rfl (mi_enum rfl T.z_enumerate (ma_cons (me_var 0) ma_nil)) (mg_twoK (K0 := K) 2 3 rfl rfl rfl rfl (pg_name (i := 2) sc__broken_stay.nd rfl (by first | exact Or.inl rfl | exact Or.inr rfl) (by first | exact .inl rfl | exact .inr rfl)) (pg_name (i := 3) sc__broken_stay.nd rfl (by first | exact Or.inl rfl | exact Or.inr rfl) (by first | exact .inl rfl | exact .inr rfl)))
    (mss_one (ms_if (mt_ne hr.units (me_at (me_at (me_var 1) (me_var 2) (fun _ _ => rfl)) (me_var 3) (fun _ _ => rfl)) (me_var 2))
    (mss_one (ms_ret (me_tup (ma_cons me_str (ma_cons (me_var 2) ma_nil)))))
    mss_nil)))
  (mss_one (ms_ret me_non)))
abbrev s_broken : Stmt := topS 24
theorem sc_broken : FnScope N_broken ["view", "table"] (defScope s_broken) := ⟨rfl, rfl, rfl, by decide +kernel, rfl, by decide +kernel, by decide +kernel⟩
theorem ok_broken {gq : Bool} (T : Txt P K mg adr fds) : FnQ gq P w K mg base 7 (adr 24) (fds 24) ["view", "table"] (spM K mg [false, false] m_broken) := by
  refine def_ok S_broken [false, false] T.F_broken sc_broken rfl rfl rfl fun cdv A outer s H E hr => ?_
  have tk : Takes (cxOf (L2.CX P w) P w K mg base N_broken "broken" (defScope s_broken) (adr 24) cdv A outer s H E) (fun c d _ H => E c d H) := takes_of rfl rfl rfl rfl
  exact (mss_cons (ms_expr (me_call (ks := [none, none]) (ok_need_table T) (hr.mono (by decide)) rfl T.g_need_table T.F_need_table.kp T.b_need_table tk (mac_cons (me_var 0) (mac_cons (me_var 1) mac_nil)) rfl rfl (by decide)))
  (mss_one (ms_ret (me_or (me_call (ks := [none, none]) (ok__broken_stay T) (hr.mono (by decide)) rfl T.g__broken_stay T.F__broken_stay.kp T.b__broken_stay tk (mac_cons (me_var 0) (mac_cons (me_var 1) mac_nil)) rfl rfl (by decide)) (me_or (me_call (ks := [none, none]) (ok__broken_shown T) (hr.mono (by decide)) rfl T.g__broken_shown T.F__broken_shown.kp T.b__broken_shown tk (mac_cons (me_var 0) (mac_cons (me_var 1) mac_nil)) rfl rfl (by decide)) (me_one (me_call (ks := [none]) (ok__broken_forget T) (hr.mono (by decide)) rfl T.g__broken_forget T.F__broken_forget.kp T.b__broken_forget tk (mac_cons (me_var 1) mac_nil) rfl rfl (by decide))))))))
abbrev s_need_sound : Stmt := topS 28
theorem sc_need_sound : FnScope N_need_sound ["view", "table"] (defScope s_need_sound) := ⟨rfl, rfl, rfl, by decide +kernel, rfl, by decide +kernel, by decide +kernel⟩
theorem ok_need_sound {gq : Bool} (T : Txt P K mg adr fds) : FnQ gq P w K mg base 8 (adr 28) (fds 28) ["view", "table"] (spM K mg [false, false] m_need_sound) := by
  refine def_ok S_need_sound [false, false] T.F_need_sound sc_need_sound rfl rfl rfl fun cdv A outer s H E hr => ?_
  have tk : Takes (cxOf (L2.CX P w) P w K mg base N_need_sound "need_sound" (defScope s_need_sound) (adr 28) cdv A outer s H E) (fun c d _ H => E c d H) := takes_of rfl rfl rfl rfl
  exact (mss_one (ms_if (mt_isNot (me_call (ks := [none, none]) (ok_broken T) (hr.mono (by decide)) rfl T.g_broken T.F_broken.kp T.b_broken tk (mac_cons (me_var 0) (mac_cons (me_var 1) mac_nil)) rfl rfl (by decide)) me_non)
    (mss_one (ms_raise rfl tk PySem.F.excBase_ValueError T.x_NotSound T.e_NotSound T.k_NotSound (raises_own T.s_NotSound T.t_NotSound) rfl))
    mss_nil))
abbrev s_written : Stmt := topS 29
theorem sc_written : FnScope N_written ["table", "state", "value"] (defScope s_written) := ⟨rfl, rfl, rfl, by decide +kernel, rfl, by decide +kernel, by decide +kernel⟩
theorem ok_written {gq : Bool} (T : Txt P K mg adr fds) : FnQ gq P w K mg base 1 (adr 29) (fds 29) ["table", "state", "value"] (spM K mg [false, false, false] m_written) := by
  refine def_ok S_written [false, false, false] T.F_written sc_written rfl rfl rfl fun cdv A outer s H E hr => ?_
  have tk : Takes (cxOf (L2.CX P w) P w K mg base N_written "written" (defScope s_written) (adr 29) cdv A outer s H E) (fun c d _ H => E c d H) := takes_of rfl rfl rfl rfl
  exact (mss_cons (ms_set 3 rfl sc_written.nd rfl (by first | exact Or.inl rfl | exact Or.inr rfl) (me_at (me_at (me_var 0) (me_var 1) (fun _ _ => rfl)) (me_var 2) (fun _ _ => rfl)))
  (mss_cons (ms_if (mt_is (me_var 3) me_non)
    (mss_one (ms_raise rfl tk PySem.F.excBase_ValueError T.x_Refused T.e_Refused T.k_Refused (raises_own T.s_Refused T.t_Refused) rfl))
    mss_nil)
  (mss_one (ms_ret (me_var 3)))))
abbrev s__is_part : Stmt := topS 32
theorem sc__is_part : FnScope N__is_part ["view", "thing"] (defScope s__is_part) := ⟨rfl, rfl, rfl, by decide +kernel, rfl, by decide +kernel, by decide +kernel⟩
theorem ok__is_part {gq : Bool} (T : Txt P K mg adr fds) : FnQ gq P w K mg base 3 (adr 32) (fds 32) ["view", "thing"] (spM K mg [false, false] m__is_part) := by
  refine def_ok S__is_part [false, false] T.F__is_part sc__is_part rfl rfl rfl fun cdv A outer s H E hr => ?_
  have tk : Takes (cxOf (L2.CX P w) P w K mg base N__is_part "_is_part" (defScope s__is_part) (adr 32) cdv A outer s H E) (fun c d _ H => E c d H) := takes_of rfl rfl rfl rfl
  exact (mss_cons (ms_if (MTw.mt (mtw_or (mt_not (mt_val (me_isinst rfl T.z_isinstance (me_var 1) rfl T.z_tuple (by decide +kernel) isD_tuple))) (mtw_one (mt_eq hr.units (me_len rfl T.z_len (ma_cons (me_var 1) ma_nil)) me_int))))
    (mss_one (ms_ret me_bl))
    mss_nil)
  (mss_cons (ms_if (mt_not (mt_val (me_all rfl rfl T.z_all (ma_cons (ML.me (ml_lc (oS := [("state", 2)]) rfl sc__is_part.nd (mi_seq (me_var 1)) (by first | decide +kernel | rfl) rfl (fun _ _ _ _ _ => (mg_name 2 rfl sc__is_part.nd rfl (by first | exact Or.inl rfl | exact Or.inr rfl) (by first | exact .inl rfl | exact .inr rfl))) (fun _ _ _ _ _ => mts_nil) (fun _ _ _ _ _ => (me_call (ks := [none, none]) (ok_is_below T) (hr.mono (by decide)) rfl T.g_is_below T.F_is_below.kp T.b_is_below takes0 (mac_cons (me_var 2) (mac_cons (me_len rfl T.z_len (ma_cons (me_var 0) ma_nil)) mac_nil)) rfl rfl (by decide))))) ma_nil))))
    (mss_one (ms_ret me_bl))
    mss_nil)
  (mss_one (ms_ret (me_and (me_eq hr.units (ML.me (ml_list rfl T.z_list (ma_cons (me_var 1) ma_nil))) (ML.me (ml_sorted (hu80 hr) rfl T.z_sorted (ma_cons (me_var 1) ma_nil)))) (me_one (me_eq hr.units (me_lenSetC rfl T.z_len (oS := [("state", 2)]) rfl sc__is_part.nd (mi_seq (me_var 1)) (by first | decide +kernel | rfl) rfl (fun _ _ _ _ _ => (mg_name 2 rfl sc__is_part.nd rfl (by first | exact Or.inl rfl | exact Or.inr rfl) (by first | exact .inl rfl | exact .inr rfl))) (fun _ _ _ _ _ => mts_nil) (fun _ _ _ _ _ => (me_at (me_var 0) (me_var 2) (fun _ _ => rfl)))) (me_len rfl T.z_len (ma_cons (me_var 1) ma_nil)))))))))
abbrev s_is_parts : Stmt := topS 31
theorem sc_is_parts : FnScope N_is_parts ["view", "thing"] (defScope s_is_parts) := ⟨rfl, rfl, rfl, by decide +kernel, rfl, by decide +kernel, by decide +kernel⟩
theorem ok_is_parts {gq : Bool} (T : Txt P K mg adr fds) : FnQ gq P w K mg base 5 (adr 31) (fds 31) ["view", "thing"] (spM K mg [false, false] m_is_parts) := by
  refine def_ok S_is_parts [false, false] T.F_is_parts sc_is_parts rfl rfl rfl fun cdv A outer s H E hr => ?_
  have tk : Takes (cxOf (L2.CX P w) P w K mg base N_is_parts "is_parts" (defScope s_is_parts) (adr 31) cdv A outer s H E) (fun c d _ H => E c d H) := takes_of rfl rfl rfl rfl
  exact (mss_cons (ms_expr (me_call (ks := [none]) (ok_need_view T) (hr.mono (by decide)) rfl T.g_need_view T.F_need_view.kp T.b_need_view tk (mac_cons (me_var 0) mac_nil) rfl rfl (by decide)))
  (mss_cons (ms_if (MTw.mt (mtw_or (mt_not (mt_val (me_isinst rfl T.z_isinstance (me_var 1) rfl T.z_tuple (by decide +kernel) isD_tuple))) (mtw_one (mt_not (mt_val (me_all rfl rfl T.z_all (ma_cons (ML.me (ml_lc (oS := [("part", 3)]) rfl sc_is_parts.nd (mi_seq (me_var 1)) (by first | decide +kernel | rfl) rfl (fun _ _ _ _ _ => (mg_name 3 rfl sc_is_parts.nd rfl (by first | exact Or.inl rfl | exact Or.inr rfl) (by first | exact .inl rfl | exact .inr rfl))) (fun _ _ _ _ _ => mts_nil) (fun _ _ _ _ _ => (me_call (ks := [none, none]) (ok__is_part T) (hr.mono (by decide)) rfl T.g__is_part T.F__is_part.kp T.b__is_part takes0 (mac_cons (me_var 0) (mac_cons (me_var 3) mac_nil)) rfl rfl (by decide))))) ma_nil)))))))
    (mss_one (ms_ret me_bl))
    mss_nil)
  (mss_cons (ms_setLc2 2 rfl rfl sc_is_parts.nd rfl rfl (sw_true rfl rfl rfl (by decide +kernel)) (oS := [("part", 3), ("state", 4)]) (vs1 := [4]) (mi_seq (me_var 1)) (by first | decide +kernel | rfl) rfl rfl (fun _ _ _ _ _ => (MG.more (mg_name 3 rfl sc_is_parts.nd rfl (by first | exact Or.inl rfl | exact Or.inr rfl) (by first | exact .inl rfl | exact .inr rfl)))) (fun _ _ _ _ _ => mts_nil) (fun _ _ _ _ _ => (mi_seq (me_var 3))) (fun _ _ _ _ _ => (mg_name 4 rfl sc_is_parts.nd rfl (by first | exact Or.inl rfl | exact Or.inr rfl) (by first | exact .inl rfl | exact .inr rfl))) (fun _ _ _ _ _ => mts_nil) (fun _ _ _ _ _ => (me_var 4)))
  (mss_one (ms_ret (me_and (me_eq hr.units (ML.me (ml_list rfl T.z_list (ma_cons (me_var 1) ma_nil))) (ML.me (ml_sorted (hu80 hr) rfl T.z_sorted (ma_cons (me_var 1) ma_nil)))) (me_one (me_eq hr.units (ML.me (ml_sorted (hu80 hr) rfl T.z_sorted (ma_cons (me_var 2) ma_nil))) (ML.me (ml_listRg rfl rfl T.z_list rfl T.z_range (me_len rfl T.z_len (ma_cons (me_var 0) ma_nil))))))))))))
abbrev s__results : Stmt := topS 34
theorem sc__results : FnScope N__results ["row"] (defScope s__results) := ⟨rfl, rfl, rfl, by decide +kernel, rfl, by decide +kernel, by decide +kernel⟩
theorem ok__results {gq : Bool} (T : Txt P K mg adr fds) : FnQ gq P w K mg base 1 (adr 34) (fds 34) ["row"] (spM K mg [false] m__results) := by
  refine def_ok S__results [false] T.F__results sc__results rfl rfl rfl fun cdv A outer s H E hr => ?_
  have tk : Takes (cxOf (L2.CX P w) P w K mg base N__results "_results" (defScope s__results) (adr 34) cdv A outer s H E) (fun c d _ H => E c d H) := takes_of rfl rfl rfl rfl
  exact (mss_one (ms_ret (me_tuple rfl T.z_tuple (ma_cons (ML.me (ml_sorted (hu80 hr) rfl T.z_sorted (ma_cons (ML.me (ml_lc (oS := [("entry", 1)]) rfl sc__results.nd (mi_seq (me_var 0)) (by first | decide +kernel | rfl) rfl (fun _ _ _ _ _ => (mg_name 1 rfl sc__results.nd rfl (by first | exact Or.inl rfl | exact Or.inr rfl) (by first | exact .inl rfl | exact .inr rfl))) (fun _ _ _ _ _ => (mts_one (mt_isNot (me_var 1) me_non))) (fun _ _ _ _ _ => (me_var 1)))) ma_nil))) ma_nil))))
abbrev s_parts_of : Stmt := topS 33
theorem sc_parts_of : FnScope N_parts_of ["view", "table"] (defScope s_parts_of) := ⟨rfl, rfl, rfl, by decide +kernel, rfl, by decide +kernel, by decide +kernel⟩
theorem ok_parts_of {gq : Bool} (T : Txt P K mg adr fds) : FnQ gq P w K mg base 9 (adr 33) (fds 33) ["view", "table"] (spM K mg [false, false] m_parts_of) := by
  refine def_ok S_parts_of [false, false] T.F_parts_of sc_parts_of rfl rfl rfl fun cdv A outer s H E hr => ?_
  have tk : Takes (cxOf (L2.CX P w) P w K mg base N_parts_of "parts_of" (defScope s_parts_of) (adr 33) cdv A outer s H E) (fun c d _ H => E c d H) := takes_of rfl rfl rfl rfl
  exact (mss_cons (ms_expr (me_call (ks := [none, none]) (ok_need_sound T) (hr.mono (by decide)) rfl T.g_need_sound T.F_need_sound.kp T.b_need_sound tk (mac_cons (me_var 0) (mac_cons (me_var 1) mac_nil)) rfl rfl (by decide)))
  (mss_one (ms_ret (me_tuple rfl T.z_tuple (ma_cons (ML.me (ml_sortSet (hu80 hr) rfl T.z_sorted (oS := [("row", 2)]) rfl sc_parts_of.nd (mi_seq (me_var 1)) (by first | decide +kernel | rfl) rfl (fun _ _ _ _ _ => (mg_name 2 rfl sc_parts_of.nd rfl (by first | exact Or.inl rfl | exact Or.inr rfl) (by first | exact .inl rfl | exact .inr rfl))) (fun _ _ _ _ _ => mts_nil) (fun _ _ _ _ _ => (me_call (ks := [none]) (ok__results T) (hr.mono (by decide)) rfl T.g__results T.F__results.kp T.b__results takes0 (mac_cons (me_var 2) mac_nil) rfl rfl (by decide))))) ma_nil)))))
abbrev s__row_of : Stmt := topS 36
theorem sc__row_of : FnScope N__row_of ["view", "part"] (defScope s__row_of) := ⟨rfl, rfl, rfl, by decide +kernel, rfl, by decide +kernel, by decide +kernel⟩
theorem ok__row_of {gq : Bool} (T : Txt P K mg adr fds) : FnQ gq P w K mg base 2 (adr 36) (fds 36) ["view", "part"] (spM K mg [false, false] m__row_of) := by
  refine def_ok S__row_of [false, false] T.F__row_of sc__row_of rfl rfl rfl fun cdv A outer s H E hr => ?_
  have tk : Takes (cxOf (L2.CX P w) P w K mg base N__row_of "_row_of" (defScope s__row_of) (adr 36) cdv A outer s H E) (fun c d _ H => E c d H) := takes_of rfl rfl rfl rfl
  exact (mss_cons (ms_set 2 rfl sc__row_of.nd rfl (by first | exact Or.inl rfl | exact Or.inr rfl) (me_dc1 (oS := [("state", 3)]) rfl sc__row_of.nd (mi_seq (me_var 1)) (by first | decide +kernel | rfl) rfl (fun _ _ _ _ _ => (mg_name 3 rfl sc__row_of.nd rfl (by first | exact Or.inl rfl | exact Or.inr rfl) (by first | exact .inl rfl | exact .inr rfl))) (fun _ _ _ _ _ => mts_nil) (fun _ _ _ _ _ => (me_at (me_var 0) (me_var 3) (fun _ _ => rfl))) (fun _ _ _ _ _ => (me_var 3))))
  (mss_one (ms_ret (me_tuple rfl T.z_tuple (ma_cons (ML.me (ml_lc (oS := [("value", 4)]) rfl sc__row_of.nd (mi_range1 rfl T.z_range (ma_cons (me_call (ks := [none]) (ok_count_values T) (hr.mono (by decide)) rfl T.g_count_values T.F_count_values.kp T.b_count_values tk (mac_cons (me_var 0) mac_nil) rfl rfl (by decide)) ma_nil)) (by first | decide +kernel | rfl) rfl (fun _ _ _ _ _ => (mg_name 4 rfl sc__row_of.nd rfl (by first | exact Or.inl rfl | exact Or.inr rfl) (by first | exact .inl rfl | exact .inr rfl))) (fun _ _ _ _ _ => mts_nil) (fun _ _ _ _ _ => (me_dget1 (hu1 (hu80 hr)) (me_var 2) (me_var 4) ⟨rfl, rfl, rfl, rfl⟩)))) ma_nil)))))
abbrev s_table_of : Stmt := topS 35
theorem sc_table_of : FnScope N_table_of ["view", "parts"] (defScope s_table_of) := ⟨rfl, rfl, rfl, by decide +kernel, rfl, by decide +kernel, by decide +kernel⟩
theorem ok_table_of {gq : Bool} (T : Txt P K mg adr fds) : FnQ gq P w K mg base 6 (adr 35) (fds 35) ["view", "parts"] (spM K mg [false, false] m_table_of) := by
  refine def_ok S_table_of [false, false] T.F_table_of sc_table_of rfl rfl rfl fun cdv A outer s H E hr => ?_
  have tk : Takes (cxOf (L2.CX P w) P w K mg base N_table_of "table_of" (defScope s_table_of) (adr 35) cdv A outer s H E) (fun c d _ H => E c d H) := takes_of rfl rfl rfl rfl
  exact (mss_cons (ms_if (mt_not (mt_val (me_call (ks := [none, none]) (ok_is_parts T) (hr.mono (by decide)) rfl T.g_is_parts T.F_is_parts.kp T.b_is_parts tk (mac_cons (me_var 0) (mac_cons (me_var 1) mac_nil)) rfl rfl (by decide))))
    (mss_one (ms_raise rfl tk PySem.F.excBase_ValueError T.x_NoParts T.e_NoParts T.k_NoParts (raises_own T.s_NoParts T.t_NoParts) rfl))
    mss_nil)
  (mss_cons (ms_set 2 rfl sc_table_of.nd rfl (by first | exact Or.inl rfl | exact Or.inr rfl) (me_dc2 (oS := [("part", 3), ("state", 4)]) (vs1 := [4]) rfl sc_table_of.nd (mi_seq (me_var 1)) (by first | decide +kernel | rfl) rfl rfl (fun _ _ _ _ _ => (MG.more (mg_name 3 rfl sc_table_of.nd rfl (by first | exact Or.inl rfl | exact Or.inr rfl) (by first | exact .inl rfl | exact .inr rfl)))) (fun _ _ _ _ _ => mts_nil) (fun _ _ _ _ _ => (mi_seq (me_var 3))) (fun _ _ _ _ _ => (mg_name 4 rfl sc_table_of.nd rfl (by first | exact Or.inl rfl | exact Or.inr rfl) (by first | exact .inl rfl | exact .inr rfl))) (fun _ _ _ _ _ => mts_nil) (fun _ _ _ _ _ => (me_var 4)) (fun _ _ _ _ _ => (me_var 3))))
  (mss_one (ms_ret (me_tuple rfl T.z_tuple (ma_cons (ML.me (ml_lc (oS := [("state", 4)]) rfl sc_table_of.nd (mi_range1 rfl T.z_range (ma_cons (me_len rfl T.z_len (ma_cons (me_var 0) ma_nil)) ma_nil)) (by first | decide +kernel | rfl) rfl (fun _ _ _ _ _ => (mg_name 4 rfl sc_table_of.nd rfl (by first | exact Or.inl rfl | exact Or.inr rfl) (by first | exact .inl rfl | exact .inr rfl))) (fun _ _ _ _ _ => mts_nil) (fun _ _ _ _ _ => (me_call (ks := [none, none]) (ok__row_of T) (hr.mono (by decide)) rfl T.g__row_of T.F__row_of.kp T.b__row_of takes0 (mac_cons (me_var 0) (mac_cons (me_dget (hu1 (hu80 hr)) (me_var 2) (me_var 4) (fun _ _ => rfl)) mac_nil)) rfl rfl (by decide))))) ma_nil))))))
abbrev s__law_cell_at : Stmt := topS 48
theorem sc__law_cell_at : FnScope N__law_cell_at ["_law_script", "_law_k"] (defScope s__law_cell_at) := ⟨rfl, rfl, rfl, by decide +kernel, rfl, by decide +kernel, by decide +kernel⟩
theorem ok__law_cell_at {gq : Bool} (T : Txt P K mg adr fds) : FnQ gq P w K mg base 1 (adr 48) (fds 48) ["_law_script", "_law_k"] (spM K mg [false, false] m__law_cell_at) := by
  refine def_ok S__law_cell_at [false, false] T.F__law_cell_at sc__law_cell_at rfl rfl rfl fun cdv A outer s H E hr => ?_
  have tk : Takes (cxOf (L2.CX P w) P w K mg base N__law_cell_at "_law_cell_at" (defScope s__law_cell_at) (adr 48) cdv A outer s H E) (fun c d _ H => E c d H) := takes_of rfl rfl rfl rfl
  exact (mss_cons (ms_if (mt_lt (me_var 1) (me_len rfl T.z_len (ma_cons (me_var 0) ma_nil)))
    (mss_one (ms_ret (me_at (me_var 0) (me_var 1) (fun _ _ => rfl))))
    mss_nil)
  (mss_one (ms_ret me_int)))
abbrev s__law_pen : Stmt := topS 49
theorem sc__law_pen : FnScope N__law_pen ["_law_cell"] (defScope s__law_pen) := ⟨rfl, rfl, rfl, by decide +kernel, rfl, by decide +kernel, by decide +kernel⟩
theorem ok__law_pen {gq : Bool} (T : Txt P K mg adr fds) : FnQ gq P w K mg base 1 (adr 49) (fds 49) ["_law_cell"] (spML K mg [false] m__law_pen) := by
  refine def_okL S__law_pen [false] T.F__law_pen sc__law_pen rfl rfl rfl rfl rfl fun cdv A outer s H E hr => ?_
  have tk : Takes (cxOf (L2.CX P w) P w K mg base N__law_pen "_law_pen" (defScope s__law_pen) (adr 49) cdv A outer s H E) (fun c d _ H => E c d H) := takes_of rfl rfl rfl rfl
  exact (ml_lst (ma_cons (me_max rfl rfl T.z_max (ma_cons me_int (ma_cons (me_sub (me_var 0) (me_pow me_int me_int)) ma_nil))) (ma_cons (me_mod (me_var 0) me_int) (ma_cons me_int ma_nil))))
abbrev s__law_draw : Stmt := topS 50
theorem sc__law_draw : FnScope N__law_draw ["_law_pen_here", "_law_many"] (defScope s__law_draw) := ⟨rfl, rfl, rfl, by decide +kernel, rfl, by decide +kernel, by decide +kernel⟩
theorem ok__law_draw {gq : Bool} (T : Txt P K mg adr fds) : FnQ gq P w K mg base 1 (adr 50) (fds 50) ["_law_pen_here", "_law_many"] (spM K mg [true, false] m__law_draw) := by
  refine def_ok S__law_draw [true, false] T.F__law_draw sc__law_draw rfl rfl rfl fun cdv A outer s H E hr => ?_
  have tk : Takes (cxOf (L2.CX P w) P w K mg base N__law_draw "_law_draw" (defScope s__law_draw) (adr 50) cdv A outer s H E) (fun c d _ H => E c d H) := takes_of rfl rfl rfl rfl
  exact (mss_cons (ms_if (mt_gt (me_atO 0 rfl me_int (fun _ _ => rfl) (pv 0)) me_int)
    (mss_cons (ms_set 3 rfl sc__law_draw.nd rfl (by first | exact Or.inl rfl | exact Or.inr rfl) (me_mod (me_atO 0 rfl me_int (fun _ _ => rfl) (pv 0)) (me_var 1)))
  (mss_cons (ms_store 0 rfl (pv 0) (me_div (me_atO 0 rfl me_int (fun _ _ => rfl) (pv 0)) (me_var 1)) me_int)
  (mss_one (ms_ret (me_var 3)))))
    mss_nil)
  (mss_cons (ms_store 0 rfl (pv 0) (me_add (me_atO 0 rfl me_int (fun _ _ => rfl) (pv 0)) me_int) me_int)
  (mss_cons (ms_set 2 rfl sc__law_draw.nd rfl (by first | exact Or.inl rfl | exact Or.inr rfl) (me_mod (me_mul (me_add (me_atO 0 rfl me_int (fun _ _ => rfl) (pv 0)) (me_mul me_int (me_atO 0 rfl me_int (fun _ _ => rfl) (pv 0)))) (me_add me_int (me_mul me_int (me_atO 0 rfl me_int (fun _ _ => rfl) (pv 0))))) me_int))
  (mss_cons (ms_set 2 rfl sc__law_draw.nd rfl (by first | exact Or.inl rfl | exact Or.inr rfl) (me_mod (me_add (me_add (me_mul (me_var 2) (me_var 2)) (me_mul me_int (me_atO 0 rfl me_int (fun _ _ => rfl) (pv 0)))) me_int) me_int))
  (mss_one (ms_ret (me_mod (me_div (me_mod (me_mul (me_var 2) me_int) me_int) me_int) (me_var 1))))))))
abbrev s__law_view : Stmt := topS 51
theorem sc__law_view : FnScope N__law_view ["_law_pen_here", "_law_low", "_law_high"] (defScope s__law_view) := ⟨rfl, rfl, rfl, by decide +kernel, rfl, by decide +kernel, by decide +kernel⟩
theorem ok__law_view {gq : Bool} (T : Txt P K mg adr fds) : FnQ gq P w K mg base 2 (adr 51) (fds 51) ["_law_pen_here", "_law_low", "_law_high"] (spM K mg [true, false, false] m__law_view) := by
  refine def_ok S__law_view [true, false, false] T.F__law_view sc__law_view rfl rfl rfl fun cdv A outer s H E hr => ?_
  have tk : Takes (cxOf (L2.CX P w) P w K mg base N__law_view "_law_view" (defScope s__law_view) (adr 51) cdv A outer s H E) (fun c d _ H => E c d H) := takes_of rfl rfl rfl rfl
  exact (mss_cons (ms_setLc 3 rfl rfl sc__law_view.nd rfl rfl (sw_true rfl rfl rfl (by decide +kernel)) (oS := [("_law_turn", 6)]) (mi_range1 rfl T.z_range (ma_cons (me_add (me_var 1) (me_call (ks := [some 0, none]) (ok__law_draw T) (hr.mono (by decide)) rfl T.g__law_draw T.F__law_draw.kp T.b__law_draw tk (mac_lend 0 rfl (pv 0) (mac_cons (me_add (me_sub (me_var 2) (me_var 1)) me_int) mac_nil)) rfl rfl (by decide))) ma_nil)) (by first | decide +kernel | rfl) rfl (fun _ _ _ _ _ => (mg_name 6 rfl sc__law_view.nd rfl (by first | exact Or.inl rfl | exact Or.inr rfl) (by first | exact .inl rfl | exact .inr rfl))) (fun _ _ _ _ _ => mts_nil) (fun _ _ _ _ _ => (me_call (ks := [some 0, none]) (ok__law_draw T) (hr.mono (by decide)) rfl T.g__law_draw T.F__law_draw.kp T.b__law_draw takes0 (mac_lend 0 rfl (pv 0) (mac_cons me_int mac_nil)) rfl rfl (by decide))))
  (mss_cons (ms_setL 4 rfl rfl sc__law_view.nd rfl (by first | exact Or.inl rfl | exact Or.inr rfl) (ml_lst ma_nil))
  (mss_cons (ms_for (passes_of rfl) rfl (mi_seq (me_var 3)) (mg_name 5 rfl sc__law_view.nd rfl (by first | exact Or.inl rfl | exact Or.inr rfl) (by first | exact .inl rfl | exact .inr rfl))
    (mss_one (ms_if (mt_cmpO 4 (op_notInM (hu65 hr) ) opb_notIn rfl (me_var 5) rfl (pv 4))
    (mss_one (ms_expr (me_append 4 rfl (pv 4) (ma_cons (me_var 5) ma_nil) (fun _ pt => pe_bm PySem.F.plainAttrs_list PySem.F.slot_list_append PySem.F.type_list_append mt_append (pv 4) pt))))
    mss_nil)))
  (mss_cons (ms_if (mt_eq hr.units (me_call (ks := [some 0, none]) (ok__law_draw T) (hr.mono (by decide)) rfl T.g__law_draw T.F__law_draw.kp T.b__law_draw tk (mac_lend 0 rfl (pv 0) (mac_cons me_int mac_nil)) rfl rfl (by decide)) me_int)
    (mss_one (ms_setL 4 rfl rfl sc__law_view.nd rfl (by first | exact Or.inl rfl | exact Or.inr rfl) (ml_revO 4 rfl (pv 4))))
    mss_nil)
  (mss_one (ms_ret (me_tuple rfl T.z_tuple (ma_cons (ML.me (ml_lc (oS := [("_law_value", 5)]) rfl sc__law_view.nd (mi_seq (me_var 3)) (by first | decide +kernel | rfl) rfl (fun _ _ _ _ _ => (mg_name 5 rfl sc__law_view.nd rfl (by first | exact Or.inl rfl | exact Or.inr rfl) (by first | exact .inl rfl | exact .inr rfl))) (fun _ _ _ _ _ => mts_nil) (fun _ _ _ _ _ => (me_indexO 4 rfl (pv 4) (hu65 hr) (ma_cons (me_var 5) ma_nil))))) ma_nil))))))))
abbrev s__law_parts : Stmt := topS 52
theorem sc__law_parts : FnScope N__law_parts_v2 ["_law_pen_here", "_law_view_here"] (defScope s__law_parts) := ⟨rfl, rfl, rfl, by decide +kernel, rfl, by decide +kernel, by decide +kernel⟩
theorem ok__law_parts {gq : Bool} (T : Txt P K mg adr fds) : FnQ gq P w K mg base 2 (adr 52) (fds 52) ["_law_pen_here", "_law_view_here"] (spM K mg [true, false] m__law_parts_v2) := by
  refine def_ok S__law_parts_v2 [true, false] T.F__law_parts sc__law_parts rfl rfl rfl fun cdv A outer s H E hr => ?_
  have tk : Takes (cxOf (L2.CX P w) P w K mg base N__law_parts_v2 "_law_parts" (defScope s__law_parts) (adr 52) cdv A outer s H E) (fun c d _ H => E c d H) := takes_of rfl rfl rfl rfl
  exact (mss_cons (ms_setL 2 rfl rfl sc__law_parts.nd rfl (by first | exact Or.inl rfl | exact Or.inr rfl) (ml_lst ma_nil))
  (mss_cons (ms_for (passes_of rfl) rfl (mi_range1 rfl T.z_range (ma_cons (me_len rfl T.z_len (ma_cons (me_var 1) ma_nil)) ma_nil)) (mg_name 3 rfl sc__law_parts.nd rfl (by first | exact Or.inl rfl | exact Or.inr rfl) (by first | exact .inl rfl | exact .inr rfl))
    (mss_cons (ms_setLc 4 rfl rfl sc__law_parts.nd rfl rfl (sw_true rfl rfl rfl (by decide +kernel)) (oS := [("_law_place", 6)]) (mi_range1 rfl T.z_range (ma_cons (me_lenO 2 rfl (pv 2) rfl T.z_len) ma_nil)) (by first | decide +kernel | rfl) rfl (fun _ _ _ _ _ => (mg_name 6 rfl sc__law_parts.nd rfl (by first | exact Or.inl rfl | exact Or.inr rfl) (by first | exact .inl rfl | exact .inr rfl))) (fun _ _ _ _ _ => (mts_one (mt_notIn (hu65 hr) (me_at (me_var 1) (me_var 3) (fun _ _ => rfl)) (ML.me (ml_lc (oS := [("_law_other", 7)]) rfl sc__law_parts.nd (mi_seq (me_atO 2 rfl (me_var 6) (fun _ _ => rfl) (pv 2))) (by first | decide +kernel | rfl) rfl (fun _ _ _ _ _ => (mg_name 7 rfl sc__law_parts.nd rfl (by first | exact Or.inl rfl | exact Or.inr rfl) (by first | exact .inl rfl | exact .inr rfl))) (fun _ _ _ _ _ => mts_nil) (fun _ _ _ _ _ => (me_at (me_var 1) (me_var 7) (fun _ _ => rfl))))) rfl))) (fun _ _ _ _ _ => (me_var 6)))
  (mss_cons (ms_set 5 rfl sc__law_parts.nd rfl (by first | exact Or.inl rfl | exact Or.inr rfl) (me_call (ks := [some 0, none]) (ok__law_draw T) (hr.mono (by decide)) rfl T.g__law_draw T.F__law_draw.kp T.b__law_draw tk (mac_lend 0 rfl (pv 0) (mac_cons (me_add (me_len rfl T.z_len (ma_cons (me_var 4) ma_nil)) me_int) mac_nil)) rfl rfl (by decide)))
  (mss_one (ms_if (mt_lt (me_var 5) (me_len rfl T.z_len (ma_cons (me_var 4) ma_nil)))
    (mss_one (ms_store 2 rfl (pv 2) (me_add (me_atO 2 rfl (me_at (me_var 4) (me_var 5) (fun _ _ => rfl)) (fun _ _ => rfl) (pv 2)) (me_tup (ma_cons (me_var 3) ma_nil))) (me_at (me_var 4) (me_var 5) (fun _ _ => rfl))))
    (mss_one (ms_expr (me_append 2 rfl (pv 2) (ma_cons (me_tup (ma_cons (me_var 3) ma_nil)) ma_nil) (fun _ pt => pe_bm PySem.F.plainAttrs_list PySem.F.slot_list_append PySem.F.type_list_append mt_append (pv 2) pt)))))))))
  (mss_one (ms_ret (me_tuple rfl T.z_tuple (ma_cons (ML.me (ml_sortedO 2 rfl (pv 2) (hu80 hr) rfl T.z_sorted)) ma_nil))))))
abbrev s__law_table : Stmt := topS 53
theorem sc__law_table : FnScope N__law_table_v4 ["_law_view_here", "_law_parts_here"] (defScope s__law_table) := ⟨rfl, rfl, rfl, by decide +kernel, rfl, by decide +kernel, by decide +kernel⟩
theorem ok__law_table {gq : Bool} (T : Txt P K mg adr fds) : FnQ gq P w K mg base 1 (adr 53) (fds 53) ["_law_view_here", "_law_parts_here"] (spM K mg [false, false] m__law_table_v4) := by
  refine def_ok S__law_table_v4 [false, false] T.F__law_table sc__law_table rfl rfl rfl fun cdv A outer s H E hr => ?_
  have tk : Takes (cxOf (L2.CX P w) P w K mg base N__law_table_v4 "_law_table" (defScope s__law_table) (adr 53) cdv A outer s H E) (fun c d _ H => E c d H) := takes_of rfl rfl rfl rfl
  exact (mss_cons (ms_setLcLL 2 rfl rfl rfl sc__law_table.nd rfl rfl (sw_true rfl rfl rfl (by decide +kernel)) (oS := [("_law_state", 4)]) (mi_seq (me_var 0)) (by first | decide +kernel | rfl) rfl (fun _ _ _ _ _ => (mg_name 4 rfl sc__law_table.nd rfl (by first | exact Or.inl rfl | exact Or.inr rfl) (by first | exact .inl rfl | exact .inr rfl))) (fun _ _ _ _ _ => mts_nil) (fun _ _ _ _ _ => (ml_mul (ML.me (ml_lst (ma_cons me_non ma_nil))) (me_add (me_max rfl rfl T.z_max (ma_cons (me_var 0) ma_nil)) me_int))))
  (mss_cons (ms_for (passes_of rfl) rfl (mi_seq (me_var 1)) (mg_name 3 rfl sc__law_table.nd rfl (by first | exact Or.inl rfl | exact Or.inr rfl) (by first | exact .inl rfl | exact .inr rfl))
    (mss_one (ms_for (passes_of rfl) rfl (mi_seq (me_var 3)) (mg_name 4 rfl sc__law_table.nd rfl (by first | exact Or.inl rfl | exact Or.inr rfl) (by first | exact .inl rfl | exact .inr rfl))
    (mss_one (ms_for (passes_of rfl) rfl (mi_seq (me_var 3)) (mg_name 5 rfl sc__law_table.nd rfl (by first | exact Or.inl rfl | exact Or.inr rfl) (by first | exact .inl rfl | exact .inr rfl))
    (mss_one (ms_store2 2 rfl (pv 2) (me_var 5) (mq_var 4 rfl (pv 4)) (mq_ix (mq_var 0 rfl (pv 0)) (mq_var 5 rfl (pv 5)) (fun _ _ => rfl)) (fun _ _ => rfl))))))))
  (mss_one (ms_ret (me_tuple rfl T.z_tuple (ma_cons (ML.me (ml_lc (oS := [("_law_row", 6)]) rfl sc__law_table.nd (mi_seq (me_moveD 2 rfl rfl (pv 2))) (by first | decide +kernel | rfl) rfl (fun _ _ _ _ _ => (mg_name 6 rfl sc__law_table.nd rfl (by first | exact Or.inl rfl | exact Or.inr rfl) (by first | exact .inl rfl | exact .inr rfl))) (fun _ _ _ _ _ => mts_nil) (fun _ _ _ _ _ => (me_tuple rfl T.z_tuple (ma_cons (me_var 6) ma_nil))))) ma_nil))))))
abbrev s_View_put : Stmt := (metS 45 6)
theorem sc_View_put : FnScope N_View_put ["self", "state", "value"] (defScope s_View_put) := ⟨rfl, rfl, rfl, by decide +kernel, rfl, by decide +kernel, by decide +kernel⟩
theorem ok_View_put {gq : Bool} (T : Txt P K mg adr fds) : FnQ gq P w K mg base 4 (adr 62) (fds 62) ["self", "state", "value"] (spM K mg [false, false, false] m_View_put) := by
  refine def_ok S_View_put [false, false, false] T.F_View_put sc_View_put rfl rfl rfl fun cdv A outer s H E hr => ?_
  have tk : Takes (cxOf (L2.CX P w) P w K mg base N_View_put "View.put" (defScope s_View_put) (adr 62) cdv A outer s H E) (fun c d _ H => E c d H) := takes_of rfl rfl rfl rfl
  exact (mss_cons (ms_expr (me_call (ks := [none, none]) (ok_need_state T) (hr.mono (by decide)) rfl T.g_need_state T.F_need_state.kp T.b_need_state tk (mac_cons (me_fld (me_var 0)) (mac_cons (me_var 1) mac_nil)) rfl rfl (by decide)))
  (mss_cons (ms_expr (me_call (ks := [none, none]) (ok_need_value T) (hr.mono (by decide)) rfl T.g_need_value T.F_need_value.kp T.b_need_value tk (mac_cons (me_fld (me_var 0)) (mac_cons (me_var 2) mac_nil)) rfl rfl (by decide)))
  (mss_one (ms_ret (me_call (ks := [none, none, none]) (ok_written T) (hr.mono (by decide)) rfl T.g_written T.F_written.kp T.b_written tk (mac_cons (me_fld (me_var 0)) (mac_cons (me_var 1) (mac_cons (me_var 2) mac_nil))) rfl rfl (by decide))))))
abbrev s__law_put : Stmt := topS 54
theorem sc__law_put : FnScope N__law_put_v3 ["_law_thing", "_law_state", "_law_value"] (defScope s__law_put) := ⟨rfl, rfl, rfl, by decide +kernel, rfl, by decide +kernel, by decide +kernel⟩
theorem ok__law_put {gq : Bool} (T : Txt P K mg adr fds) : FnQ gq P w K mg base 5 (adr 54) (fds 54) ["_law_thing", "_law_state", "_law_value"] (spM K mg [false, false, false] m__law_put_v3) := by
  refine def_ok S__law_put_v3 [false, false, false] T.F__law_put sc__law_put rfl rfl rfl fun cdv A outer s H E hr => ?_
  have tk : Takes (cxOf (L2.CX P w) P w K mg base N__law_put_v3 "_law_put" (defScope s__law_put) (adr 54) cdv A outer s H E) (fun c d _ H => E c d H) := takes_of rfl rfl rfl rfl
  exact (mss_one (ms_try (C := adr 9) (cs := [("NoParts", false), ("NoState", false), ("NoTable", false), ("NoValue", false), ("NoView", false), ("NotSound", false), ("Refused", true)]) rfl rfl ⟨rfl, by decide, .inl T.e_Refused⟩ tk (cs_cons T.e_NoParts (PySem.W.exm_ref T.s_Refused T.d_Refused T.t_Refused T.u_NoParts_Refused) (cs_cons T.e_NoState (PySem.W.exm_ref T.s_Refused T.d_Refused T.t_Refused T.u_NoState_Refused) (cs_cons T.e_NoTable (PySem.W.exm_ref T.s_Refused T.d_Refused T.t_Refused T.u_NoTable_Refused) (cs_cons T.e_NoValue (PySem.W.exm_ref T.s_Refused T.d_Refused T.t_Refused T.u_NoValue_Refused) (cs_cons T.e_NoView (PySem.W.exm_ref T.s_Refused T.d_Refused T.t_Refused T.u_NoView_Refused) (cs_cons T.e_NotSound (PySem.W.exm_ref T.s_Refused T.d_Refused T.t_Refused T.u_NotSound_Refused) (cs_cons T.e_Refused (PySem.W.exm_ref T.s_Refused T.d_Refused T.t_Refused T.u_Refused_Refused) cs_nil))))))) (fun _ _ _ tk1 _ => (mss_one (ms_ret (me_meth_ (P := (fun cn => cn != "LoggedView")) (fun _ h => vw_put h T.nv T.m_View_put) (by decide) (ok_View_put T) (hr.mono (by decide)) T.b_View_put tk1 (me_var 0) (ma_cons (me_var 1) (ma_cons (me_var 2) ma_nil)))))) (fun _ _ _ _ _ _ _ => (mss_one (ms_ret me_str)))))
abbrev s_View_may : Stmt := (metS 45 7)
theorem sc_View_may : FnScope N_View_may ["self", "state"] (defScope s_View_may) := ⟨rfl, rfl, rfl, by decide +kernel, rfl, by decide +kernel, by decide +kernel⟩
theorem ok_View_may {gq : Bool} (T : Txt P K mg adr fds) : FnQ gq P w K mg base 4 (adr 63) (fds 63) ["self", "state"] (spM K mg [false, false] m_View_may) := by
  refine def_ok S_View_may [false, false] T.F_View_may sc_View_may rfl rfl rfl fun cdv A outer s H E hr => ?_
  have tk : Takes (cxOf (L2.CX P w) P w K mg base N_View_may "View.may" (defScope s_View_may) (adr 63) cdv A outer s H E) (fun c d _ H => E c d H) := takes_of rfl rfl rfl rfl
  exact (mss_cons (ms_expr (me_call (ks := [none, none]) (ok_need_state T) (hr.mono (by decide)) rfl T.g_need_state T.F_need_state.kp T.b_need_state tk (mac_cons (me_fld (me_var 0)) (mac_cons (me_var 1) mac_nil)) rfl rfl (by decide)))
  (mss_one (ms_ret (me_tuple rfl T.z_tuple (ma_cons (ML.me (ml_lc (oS := [("value", 2), ("result", 3)]) rfl sc_View_may.nd (mi_enum rfl T.z_enumerate (ma_cons (me_at (me_fld (me_var 0)) (me_var 1) (fun _ _ => rfl)) ma_nil)) (by first | decide +kernel | rfl) rfl (fun _ _ _ _ _ => (mg_twoK (K0 := K) 2 3 rfl rfl rfl rfl (pg_name (i := 2) sc_View_may.nd rfl (by first | exact Or.inl rfl | exact Or.inr rfl) (by first | exact .inl rfl | exact .inr rfl)) (pg_name (i := 3) sc_View_may.nd rfl (by first | exact Or.inl rfl | exact Or.inr rfl) (by first | exact .inl rfl | exact .inr rfl)))) (fun _ _ _ _ _ => (mts_one (mt_isNot (me_var 3) me_non))) (fun _ _ _ _ _ => (me_var 2)))) ma_nil)))))
abbrev s_View_parts : Stmt := (metS 45 4)
theorem sc_View_parts : FnScope N_View_parts ["self"] (defScope s_View_parts) := ⟨rfl, rfl, rfl, by decide +kernel, rfl, by decide +kernel, by decide +kernel⟩
theorem ok_View_parts {gq : Bool} (T : Txt P K mg adr fds) : FnQ gq P w K mg base 10 (adr 60) (fds 60) ["self"] (spM K mg [false] m_View_parts) := by
  refine def_ok S_View_parts [false] T.F_View_parts sc_View_parts rfl rfl rfl fun cdv A outer s H E hr => ?_
  have tk : Takes (cxOf (L2.CX P w) P w K mg base N_View_parts "View.parts" (defScope s_View_parts) (adr 60) cdv A outer s H E) (fun c d _ H => E c d H) := takes_of rfl rfl rfl rfl
  exact (mss_one (ms_ret (me_call (ks := [none, none]) (ok_parts_of T) (hr.mono (by decide)) rfl T.g_parts_of T.F_parts_of.kp T.b_parts_of tk (mac_cons (me_fld (me_var 0)) (mac_cons (me_fld (me_var 0)) mac_nil)) rfl rfl (by decide))))
abbrev s_View_reachable : Stmt := (metS 45 8)
theorem sc_View_reachable : GScope N_View_reachable ["self", "state"] (defScope s_View_reachable) := ⟨rfl, rfl, rfl, by decide +kernel, rfl, by decide +kernel, by decide +kernel⟩
theorem ok_View_reachable (T : Txt P K mg adr fds) : GFn P w K mg base 4 (adr 64) (fds 64) ["self", "state"] (spMG K mg [false, false] m_View_reachable) := by
  refine def_okG S_View_reachable [false, false] T.F_View_reachable sc_View_reachable rfl rfl rfl rfl fun cdv A outer s H E pn hr => ?_
  have tk : Takes (gcxOf P w K mg base N_View_reachable "View.reachable" (defScope s_View_reachable) (adr 64) cdv A outer s H E pn) (fun c d _ H => E c d H) := takes_gcx
  exact (mgn_cons (ms_expr (me_call (ks := [none, none]) (ok_need_state T) (hr.mono (by decide)) rfl T.g_need_state T.F_need_state.kp T.b_need_state tk (mac_cons (me_fld (me_var 0)) (mac_cons (me_var 1) mac_nil)) rfl rfl (by decide)))
  (mgn_yf owns_gcx rfl rfl (me_var 1) (mi_seq (ML.me (ml_sorted (hu80 hr) rfl T.z_sorted (ma_cons (ML.me (ml_lc (oS := [("result", 3)]) rfl sc_View_reachable.nd (mi_seq (me_at (me_fld (me_var 0)) (me_var 1) (fun _ _ => rfl))) (by first | decide +kernel | rfl) rfl (fun _ _ _ _ _ => (mg_name 3 rfl sc_View_reachable.nd rfl (by first | exact Or.inl rfl | exact Or.inr rfl) (by first | exact .inl rfl | exact .inr rfl))) (fun _ _ _ _ _ => (mts_one (mt_isNot (me_var 3) me_non))) (fun _ _ _ _ _ => (me_var 3)))) ma_nil)))) (mg_name 2 rfl sc_View_reachable.nd rfl (by first | exact Or.inl rfl | exact Or.inr rfl) (by first | exact .inl rfl | exact .inr rfl)) (mt_ne hr.units (me_var 2) (me_var 1)) (me_var 2)))
abbrev s_View_shown : Stmt := (metS 45 2)
theorem sc_View_shown : FnScope N_View_shown ["self"] (defScope s_View_shown) := ⟨rfl, rfl, rfl, by decide +kernel, rfl, by decide +kernel, by decide +kernel⟩
theorem ok_View_shown {gq : Bool} (T : Txt P K mg adr fds) : FnQ gq P w K mg base 1 (adr 58) (fds 58) ["self"] (spM K mg [false] m_View_shown) := by
  refine def_ok S_View_shown [false] T.F_View_shown sc_View_shown rfl rfl rfl fun cdv A outer s H E hr => ?_
  have tk : Takes (cxOf (L2.CX P w) P w K mg base N_View_shown "View.shown" (defScope s_View_shown) (adr 58) cdv A outer s H E) (fun c d _ H => E c d H) := takes_of rfl rfl rfl rfl
  exact (mss_one (ms_ret (me_fld (me_var 0))))
abbrev s_View_table : Stmt := (metS 45 3)
theorem sc_View_table : FnScope N_View_table ["self"] (defScope s_View_table) := ⟨rfl, rfl, rfl, by decide +kernel, rfl, by decide +kernel, by decide +kernel⟩
theorem ok_View_table {gq : Bool} (T : Txt P K mg adr fds) : FnQ gq P w K mg base 1 (adr 59) (fds 59) ["self"] (spM K mg [false] m_View_table) := by
  refine def_ok S_View_table [false] T.F_View_table sc_View_table rfl rfl rfl fun cdv A outer s H E hr => ?_
  have tk : Takes (cxOf (L2.CX P w) P w K mg base N_View_table "View.table" (defScope s_View_table) (adr 59) cdv A outer s H E) (fun c d _ H => E c d H) := takes_of rfl rfl rfl rfl
  exact (mss_one (ms_ret (me_fld (me_var 0))))
abbrev s_View_value_at : Stmt := (metS 45 5)
theorem sc_View_value_at : FnScope N_View_value_at ["self", "state"] (defScope s_View_value_at) := ⟨rfl, rfl, rfl, by decide +kernel, rfl, by decide +kernel, by decide +kernel⟩
theorem ok_View_value_at {gq : Bool} (T : Txt P K mg adr fds) : FnQ gq P w K mg base 4 (adr 61) (fds 61) ["self", "state"] (spM K mg [false, false] m_View_value_at) := by
  refine def_ok S_View_value_at [false, false] T.F_View_value_at sc_View_value_at rfl rfl rfl fun cdv A outer s H E hr => ?_
  have tk : Takes (cxOf (L2.CX P w) P w K mg base N_View_value_at "View.value_at" (defScope s_View_value_at) (adr 61) cdv A outer s H E) (fun c d _ H => E c d H) := takes_of rfl rfl rfl rfl
  exact (mss_cons (ms_expr (me_call (ks := [none, none]) (ok_need_state T) (hr.mono (by decide)) rfl T.g_need_state T.F_need_state.kp T.b_need_state tk (mac_cons (me_fld (me_var 0)) (mac_cons (me_var 1) mac_nil)) rfl rfl (by decide)))
  (mss_one (ms_ret (me_at (me_fld (me_var 0)) (me_var 1) (fun _ _ => rfl)))))
abbrev s__law_answers : Stmt := topS 55
theorem sc__law_answers : FnScope N__law_answers_v2 ["_law_thing", "_law_view_here", "_law_parts_here"] (defScope s__law_answers) := ⟨rfl, rfl, rfl, by decide +kernel, rfl, by decide +kernel, by decide +kernel⟩
theorem ok__law_answers {gq : Bool} (T : Txt P K mg adr fds) : FnQ gq P w K mg base 12 (adr 55) (fds 55) ["_law_thing", "_law_view_here", "_law_parts_here"] (spM K mg [false, false, false] m__law_answers_v2) := by
  refine def_ok S__law_answers_v2 [false, false, false] T.F__law_answers sc__law_answers rfl rfl rfl fun cdv A outer s H E hr => ?_
  have tk : Takes (cxOf (L2.CX P w) P w K mg base N__law_answers_v2 "_law_answers" (defScope s__law_answers) (adr 55) cdv A outer s H E) (fun c d _ H => E c d H) := takes_of rfl rfl rfl rfl
  exact (mss_cons (ms_par 4 5 rfl rfl rfl sc__law_answers.nd rfl rfl (by decide) rfl rfl (ma_cons (me_call (ks := [none, none]) (ok__law_table T) (hr.mono (by decide)) rfl T.g__law_table T.F__law_table.kp T.b__law_table tk (mac_cons (me_var 1) (mac_cons (me_var 2) mac_nil)) rfl rfl (by decide)) (ma_cons (me_add (me_max rfl rfl T.z_max (ma_cons (me_var 1) ma_nil)) me_int) ma_nil)) rfl)
  (mss_cons (ms_if (mt_ne hr.units (me_tup (ma_cons (me_propV T.nv T.p_View_shown (ok_View_shown T) (hr.mono (by decide)) T.b_View_shown (me_var 0)) (ma_cons (me_propV T.nv T.p_View_table (ok_View_table T) (hr.mono (by decide)) T.b_View_table (me_var 0)) (ma_cons (me_propV T.nv T.p_View_parts (ok_View_parts T) (hr.mono (by decide)) T.b_View_parts (me_var 0)) ma_nil)))) (me_tup (ma_cons (me_var 1) (ma_cons (me_var 4) (ma_cons (me_var 2) ma_nil)))))
    (mss_one (ms_ret me_bl))
    mss_nil)
  (mss_cons (ms_for (passes_of rfl) rfl (mi_seq (me_var 2)) (mg_name 3 rfl sc__law_answers.nd rfl (by first | exact Or.inl rfl | exact Or.inr rfl) (by first | exact .inl rfl | exact .inr rfl))
    (mss_one (ms_for (passes_of rfl) rfl (mi_seq (me_var 3)) (mg_name 6 rfl sc__law_answers.nd rfl (by first | exact Or.inl rfl | exact Or.inr rfl) (by first | exact .inl rfl | exact .inr rfl))
    (mss_cons (ms_setLc 7 rfl rfl sc__law_answers.nd rfl rfl (sw_true rfl rfl rfl (by decide +kernel)) (oS := [("_law_value", 10)]) (mi_range1 rfl T.z_range (ma_cons (me_var 5) ma_nil)) (by first | decide +kernel | rfl) rfl (fun _ _ _ _ _ => (mg_name 10 rfl sc__law_answers.nd rfl (by first | exact Or.inl rfl | exact Or.inr rfl) (by first | exact .inl rfl | exact .inr rfl))) (fun _ _ _ _ _ => mts_nil) (fun _ _ _ _ _ => (me_call (ks := [none, none, none]) (ok__law_put T) (hr.mono (by decide)) rfl T.g__law_put T.F__law_put.kp T.b__law_put takes0 (mac_cons (me_var 0) (mac_cons (me_var 6) (mac_cons (me_var 10) mac_nil))) rfl rfl (by decide))))
  (mss_cons (ms_set 8 rfl sc__law_answers.nd rfl (by first | exact Or.inl rfl | exact Or.inr rfl) (ML.me (ml_lc (oS := [("_law_entry", 11)]) rfl sc__law_answers.nd (mi_seq (me_at (me_var 4) (me_var 6) (fun _ _ => rfl))) (by first | decide +kernel | rfl) rfl (fun _ _ _ _ _ => (mg_name 11 rfl sc__law_answers.nd rfl (by first | exact Or.inl rfl | exact Or.inr rfl) (by first | exact .inl rfl | exact .inr rfl))) (fun _ _ _ _ _ => mts_nil) (fun _ _ _ _ _ => (me_ifExp (mt_is (me_var 11) me_non) me_str (me_var 11))))))
  (mss_cons (ms_set 9 rfl sc__law_answers.nd rfl (by first | exact Or.inl rfl | exact Or.inr rfl) (me_tuple rfl T.z_tuple (ma_cons (ML.me (ml_lc (oS := [("_law_value", 10)]) rfl sc__law_answers.nd (mi_range1 rfl T.z_range (ma_cons (me_var 5) ma_nil)) (by first | decide +kernel | rfl) rfl (fun _ _ _ _ _ => (mg_name 10 rfl sc__law_answers.nd rfl (by first | exact Or.inl rfl | exact Or.inr rfl) (by first | exact .inl rfl | exact .inr rfl))) (fun _ _ _ _ _ => (mts_one (mt_ne hr.units (me_at (me_var 8) (me_var 10) (fun _ _ => rfl)) me_str))) (fun _ _ _ _ _ => (me_var 10)))) ma_nil)))
  (mss_cons (ms_if (MTw.mt (mtw_or (mt_ne hr.units (me_var 7) (me_var 8)) (mtw_or (mt_ne hr.units (me_meth_ (P := (fun _ => true)) (fun _ h => vw_meth h T.nv (by decide) T.m_View_may) (by decide) (ok_View_may T) (hr.mono (by decide)) T.b_View_may tk (me_var 0) (ma_cons (me_var 6) ma_nil)) (me_var 9)) (mtw_one (mt_ne hr.units (me_meth_ (P := (fun _ => true)) (fun _ h => vw_meth h T.nv (by decide) T.m_View_value_at) (by decide) (ok_View_value_at T) (hr.mono (by decide)) T.b_View_value_at tk (me_var 0) (ma_cons (me_var 6) ma_nil)) (me_at (me_var 1) (me_var 6) (fun _ _ => rfl)))))))
    (mss_one (ms_ret me_bl))
    mss_nil)
  (mss_one (ms_if (mt_ne hr.units (ML.me (ml_genMeth T.nv T.m_View_reachable (ok_View_reachable T) (hr.rm.mono (by decide)) T.b_View_reachable (me_var 0) (ma_cons (me_var 6) ma_nil) rfl T.z_list (by first | rfl | decide +kernel))) (me_add (ML.me (ml_lst (ma_cons (me_var 6) ma_nil))) (ML.me (ml_lc (oS := [("_law_other", 12)]) rfl sc__law_answers.nd (mi_seq (me_var 3)) (by first | decide +kernel | rfl) rfl (fun _ _ _ _ _ => (mg_name 12 rfl sc__law_answers.nd rfl (by first | exact Or.inl rfl | exact Or.inr rfl) (by first | exact .inl rfl | exact .inr rfl))) (fun _ _ _ _ _ => (mts_one (mt_ne hr.units (me_var 12) (me_var 6)))) (fun _ _ _ _ _ => (me_var 12))))))
    (mss_one (ms_ret me_bl))
    mss_nil)))))))))
  (mss_one (ms_ret (me_eq hr.units (me_tup (ma_cons (me_propV T.nv T.p_View_shown (ok_View_shown T) (hr.mono (by decide)) T.b_View_shown (me_var 0)) (ma_cons (me_propV T.nv T.p_View_table (ok_View_table T) (hr.mono (by decide)) T.b_View_table (me_var 0)) ma_nil))) (me_tup (ma_cons (me_var 1) (ma_cons (me_var 4) ma_nil)))))))))
abbrev s_View___init__ : Stmt := (metS 45 1)
theorem sc_View___init__ : FnScope N_View___init__ ["self", "shown"] (defScope s_View___init__) := ⟨rfl, rfl, rfl, by decide +kernel, rfl, by decide +kernel, by decide +kernel⟩
theorem ok_View___init__ {gq : Bool} (T : Txt P K mg adr fds) : FnQ gq P w K mg base 7 (adr 57) (fds 57) ["self", "shown"] (spI K mg 1 m_View___init__) := by
  refine def_okI S_View___init__ 1 T.F_View___init__ sc_View___init__ rfl rfl (by decide) rfl rfl fun cdv A outer s H E hr => ?_
  have tk : Takes (cxOf (L2.CX P w) P w K mg base N_View___init__ "View.__init__" (defScope s_View___init__) (adr 57) cdv A outer s H E) (fun c d _ H => E c d H) := takes_of rfl rfl rfl rfl
  exact (mss_cons (ms_expr (me_call (ks := [none]) (ok_need_view T) (hr.mono (by decide)) rfl T.g_need_view T.F_need_view.kp T.b_need_view tk (mac_cons (me_var 1) mac_nil) rfl rfl (by decide)))
  (mss_cons (ms_setFld 0 rfl (pv 0) (me_var 1))
  (mss_one (ms_setFld 0 rfl (pv 0) (me_call (ks := [none, none]) (ok_table_of T) (hr.mono (by decide)) rfl T.g_table_of T.F_table_of.kp T.b_table_of tk (mac_cons (me_var 1) (mac_cons (me_tuple rfl T.z_tuple (ma_cons (ML.me (ml_lc (oS := [("state", 2)]) rfl sc_View___init__.nd (mi_range1 rfl T.z_range (ma_cons (me_len rfl T.z_len (ma_cons (me_var 1) ma_nil)) ma_nil)) (by first | decide +kernel | rfl) rfl (fun _ _ _ _ _ => (mg_name 2 rfl sc_View___init__.nd rfl (by first | exact Or.inl rfl | exact Or.inr rfl) (by first | exact .inl rfl | exact .inr rfl))) (fun _ _ _ _ _ => mts_nil) (fun _ _ _ _ _ => (me_tup (ma_cons (me_var 2) ma_nil))))) ma_nil)) mac_nil)) rfl rfl (by decide))))))
abbrev s_TableView___init__ : Stmt := (metS 46 0)
theorem sc_TableView___init__ : ScopeS N_TableView___init__ ["self", "shown", "table"] (defScope s_TableView___init__) := ⟨rfl, rfl, rfl, by decide +kernel, rfl, by decide +kernel, by decide +kernel, by decide +kernel⟩
theorem ok_TableView___init__ {gq : Bool} (T : Txt P K mg adr fds) : FnQ gq P w K mg base 9 (adr 68) (fds 68) ["self", "shown", "table"] (spI K mg 2 m_TableView___init__) := by
  refine def_okSup S_TableView___init__ 2 T.F_TableView___init__ sc_TableView___init__ rfl rfl (by decide) rfl rfl fun A outer s H E hr => ?_
  have tk : Takes (cxS P w K mg base N_TableView___init__ "TableView.__init__" (defScope s_TableView___init__) (adr 68) (adr 72) (adr 73) A outer s H E) (fun c d _ H => E c d H) := takes_of rfl rfl rfl rfl
  exact (msa_cons (msa1_of (ms_expr (me_call (ks := [none, none]) (ok_need_sound T) (hr.mono (by decide)) rfl T.g_need_sound T.F_need_sound.kp T.b_need_sound tk (mac_cons (me_var 1) (mac_cons (me_var 2) mac_nil)) rfl rfl (by decide))))
  (msa_cons (msa_super rfl rfl T.F_TableView___init__ T.opq T.zsup T.top rfl rfl rfl rfl rfl rfl T.nd_TableView T.us_TableView___init__ (by decide) (ok_View___init__ T) (hr.mono (by decide)) T.b_View___init__ T.fn_View___init__ T.ty_View___init__ (by decide) tk (ma_cons (me_var 1) ma_nil) rfl rfl rfl rfl rfl)
  (msa_of (mss_one (ms_setFld 0 rfl (pv 0) (me_var 2))))))
abbrev s_law : Stmt := topS 56
theorem sc_law : FnScope N_law_k44_v2 ["_law_script"] (defScope s_law) := ⟨rfl, rfl, rfl, by decide +kernel, rfl, by decide +kernel, by decide +kernel⟩
theorem ok_law {gq : Bool} (T : Txt P K mg adr fds) : FnQ gq P w K mg base 13 (adr 56) (fds 56) ["_law_script"] (spM K mg [false] m_law_k44_v2) := by
  refine def_ok S_law_k44_v2 [false] T.F_law sc_law rfl rfl rfl fun cdv A outer s H E hr => ?_
  have tk : Takes (cxOf (L2.CX P w) P w K mg base N_law_k44_v2 "law" (defScope s_law) (adr 56) cdv A outer s H E) (fun c d _ H => E c d H) := takes_of rfl rfl rfl rfl
  exact (mss_cons (ms_if (mt_ne hr.units (me_cval rfl T.g_View T.rd_View T.cv_View_LIMIT.choose_spec (fun _ => .int _)) me_int)
    (mss_one (ms_ret me_bl))
    mss_nil)
  (mss_cons (ms_for (passes_of rfl) rfl (mi_seq (me_add (ML.me (ml_lst (ma_cons (me_call (ks := [none, none]) (ok__law_cell_at T) (hr.mono (by decide)) rfl T.g__law_cell_at T.F__law_cell_at.kp T.b__law_cell_at tk (mac_cons (me_var 0) (mac_cons me_int mac_nil)) rfl rfl (by decide)) ma_nil))) (me_sl (me_var 0) (mo_some me_int) (mo_some me_int)))) (mg_name 1 rfl sc_law.nd rfl (by first | exact Or.inl rfl | exact Or.inr rfl) (by first | exact .inl rfl | exact .inr rfl))
    (mss_cons (ms_setL 2 rfl rfl sc_law.nd rfl (by first | exact Or.inl rfl | exact Or.inr rfl) (ml_call (ks := [none]) (ok__law_pen T) (hr.mono (by decide)) rfl T.g__law_pen T.F__law_pen.kp T.b__law_pen tk (mac_cons (me_var 1) mac_nil) rfl rfl (by decide)))
  (mss_cons (ms_set 3 rfl sc_law.nd rfl (by first | exact Or.inl rfl | exact Or.inr rfl) (me_call (ks := [some 2, none, none]) (ok__law_view T) (hr.mono (by decide)) rfl T.g__law_view T.F__law_view.kp T.b__law_view tk (mac_lend 2 rfl (pv 2) (mac_cons me_int (mac_cons me_int mac_nil))) rfl rfl (by decide)))
  (mss_cons (ms_set 4 rfl sc_law.nd rfl (by first | exact Or.inl rfl | exact Or.inr rfl) (me_call (ks := [some 2, none]) (ok__law_parts T) (hr.mono (by decide)) rfl T.g__law_parts T.F__law_parts.kp T.b__law_parts tk (mac_lend 2 rfl (pv 2) (mac_cons (me_var 3) mac_nil)) rfl rfl (by decide)))
  (mss_cons (ms_if (mt_not (mt_val (me_call (ks := [none, none, none]) (ok__law_answers T) (hr.mono (by decide)) rfl T.g__law_answers T.F__law_answers.kp T.b__law_answers tk (mac_cons (me_make T.cl_View T.mk_View (ok_View___init__ T) (hr.mono (by decide)) rfl T.g_View T.b_View___init__ tk (ma_cons (me_var 3) ma_nil)) (mac_cons (me_var 3) (mac_cons (me_tuple rfl T.z_tuple (ma_cons (ML.me (ml_lc (oS := [("_law_state", 5)]) rfl sc_law.nd (mi_range1 rfl T.z_range (ma_cons (me_len rfl T.z_len (ma_cons (me_var 3) ma_nil)) ma_nil)) (by first | decide +kernel | rfl) rfl (fun _ _ _ _ _ => (mg_name 5 rfl sc_law.nd rfl (by first | exact Or.inl rfl | exact Or.inr rfl) (by first | exact .inl rfl | exact .inr rfl))) (fun _ _ _ _ _ => mts_nil) (fun _ _ _ _ _ => (me_tup (ma_cons (me_var 5) ma_nil))))) ma_nil)) mac_nil))) rfl rfl (by decide))))
    (mss_one (ms_ret me_bl))
    mss_nil)
  (mss_one (ms_if (mt_not (mt_val (me_call (ks := [none, none, none]) (ok__law_answers T) (hr.mono (by decide)) rfl T.g__law_answers T.F__law_answers.kp T.b__law_answers tk (mac_cons (me_make T.cl_TableView T.mk_TableView (ok_TableView___init__ T) (hr.mono (by decide)) rfl T.g_TableView T.b_TableView___init__ tk (ma_cons (me_var 3) (ma_cons (me_call (ks := [none, none]) (ok__law_table T) (hr.mono (by decide)) rfl T.g__law_table T.F__law_table.kp T.b__law_table tk (mac_cons (me_var 3) (mac_cons (me_var 4) mac_nil)) rfl rfl (by decide)) ma_nil))) (mac_cons (me_var 3) (mac_cons (me_var 4) mac_nil))) rfl rfl (by decide))))
    (mss_one (ms_ret me_bl))
    mss_nil)))))))
  (mss_one (ms_ret me_bl))))
end
set_option maxHeartbeats 0 in
theorem all_mk {l : PySem.W.OpenLaw} {w : World} {K : PySem.W.Frag} {h : Heap} {mg : Str → Option Value} (X : K.In h) (G : h.Ns mainGlobals mg) {fa : Addr} (hfa : mg "law" = some (.ref fa)) (noL : noLst K = true) (hm : ∀ ns : List Int, ns.length ≤ 63 → ∃ zs, m_law_k44_v2 [.list (ns.map PyData.int)] = .ok (.bool true) zs)
    {C45 C46 cda68 cc68 pr60 pr58 pr59 : Addr}
    {vq1 vq2 vq3 vq4 vq5 vq6 vq7 vq8 vq9 : Option (Option Value)}
    {rs60 rs58 rs59 : List Value}
    {ra68 rg68 : Value} {rb68 rh68 : Option Addr} {rv68 : Array Value} {rsl68 rk68 : Array (Option Value)} {rf68 : Str} {rt68 : Tok} {cdt68 cvt68 : ClassData}
    {ctk_View_LIMIT : Tok}
    {f12 f13 f16 f17 f18 f19 f20 f22 f21 f23 f27 f26 f25 f24 f28 f29 f32 f31 f34 f33 f36 f35 f48 f49 f50 f51 f52 f53 f62 f54 f63 f60 f64 f58 f59 f61 f55 f57 f68 f56 C6 C7 C4 C8 C3 C5 C9 : Addr}
    {od12 an12 od13 an13 od16 an16 od17 an17 od18 an18 od19 an19 od20 an20 od22 an22 od21 an21 od23 an23 od27 an27 od26 an26 od25 an25 od24 an24 od28 an28 od29 an29 od32 an32 od31 an31 od34 an34 od33 an33 od36 an36 od35 an35 od48 an48 od49 an49 od50 an50 od51 an51 od52 an52 od53 an53 od62 an62 od54 an54 od63 an63 od60 an60 od64 an64 od58 an58 od59 an59 od61 an61 od55 an55 od57 an57 od68 an68 od56 an56 : Option Addr} {sl12 sl13 sl16 sl17 sl18 sl19 sl20 sl22 sl21 sl23 sl27 sl26 sl25 sl24 sl28 sl29 sl32 sl31 sl34 sl33 sl36 sl35 sl48 sl49 sl50 sl51 sl52 sl53 sl62 sl54 sl63 sl60 sl64 sl58 sl59 sl61 sl55 sl57 sl68 sl56 : Array (Option Value)} {oc12 kV12 dc12 pm12 ct12 cd12 oc13 kV13 dc13 pm13 ct13 cd13 oc16 kV16 dc16 pm16 ct16 cd16 oc17 kV17 dc17 pm17 ct17 cd17 oc18 kV18 dc18 pm18 ct18 cd18 oc19 kV19 dc19 pm19 ct19 cd19 oc20 kV20 dc20 pm20 ct20 cd20 oc22 kV22 dc22 pm22 ct22 cd22 oc21 kV21 dc21 pm21 ct21 cd21 oc23 kV23 dc23 pm23 ct23 cd23 oc27 kV27 dc27 pm27 ct27 cd27 oc26 kV26 dc26 pm26 ct26 cd26 oc25 kV25 dc25 pm25 ct25 cd25 oc24 kV24 dc24 pm24 ct24 cd24 oc28 kV28 dc28 pm28 ct28 cd28 oc29 kV29 dc29 pm29 ct29 cd29 oc32 kV32 dc32 pm32 ct32 cd32 oc31 kV31 dc31 pm31 ct31 cd31 oc34 kV34 dc34 pm34 ct34 cd34 oc33 kV33 dc33 pm33 ct33 cd33 oc36 kV36 dc36 pm36 ct36 cd36 oc35 kV35 dc35 pm35 ct35 cd35 oc48 kV48 dc48 pm48 ct48 cd48 oc49 kV49 dc49 pm49 ct49 cd49 oc50 kV50 dc50 pm50 ct50 cd50 oc51 kV51 dc51 pm51 ct51 cd51 oc52 kV52 dc52 pm52 ct52 cd52 oc53 kV53 dc53 pm53 ct53 cd53 oc62 kV62 dc62 pm62 ct62 cd62 oc54 kV54 dc54 pm54 ct54 cd54 oc63 kV63 dc63 pm63 ct63 cd63 oc60 kV60 dc60 pm60 ct60 cd60 oc64 kV64 dc64 pm64 ct64 cd64 oc58 kV58 dc58 pm58 ct58 cd58 oc59 kV59 dc59 pm59 ct59 cd59 oc61 kV61 dc61 pm61 ct61 cd61 oc55 kV55 dc55 pm55 ct55 cd55 oc57 kV57 dc57 pm57 ct57 cd57 oc68 kV68 dc68 pm68 ct68 oc56 kV56 dc56 pm56 ct56 cd56 : Value}
    {t_MOST_STATES : Tok}
    (a45 : PySem.W.nsIn K mainGlobals "View" = some (some (.ref C45)))
    (a46 : PySem.W.nsIn K mainGlobals "TableView" = some (some (.ref C46)))
    (a12 : PySem.W.nsIn K mainGlobals "is_whole" = some (some (.ref f12))) (l12 : K.lookup f12 = some ⟨oc12, od12, .func (PySem.W.fnOf "is_whole" "is_whole" (defArgs (topS 12)) (defBody (topS 12)) (defScope (topS 12)) .none kV12 dc12 pm12 an12 cd12 ct12), sl12⟩) (c12 : PySem.W.codeIn K cd12 "is_whole" = true) (k12 : PySem.W.keepIn K (.ref f12) = true)
    (a13 : PySem.W.nsIn K mainGlobals "is_below" = some (some (.ref f13))) (l13 : K.lookup f13 = some ⟨oc13, od13, .func (PySem.W.fnOf "is_below" "is_below" (defArgs (topS 13)) (defBody (topS 13)) (defScope (topS 13)) .none kV13 dc13 pm13 an13 cd13 ct13), sl13⟩) (c13 : PySem.W.codeIn K cd13 "is_below" = true) (k13 : PySem.W.keepIn K (.ref f13) = true)
    (a16 : PySem.W.nsIn K mainGlobals "is_view" = some (some (.ref f16))) (l16 : K.lookup f16 = some ⟨oc16, od16, .func (PySem.W.fnOf "is_view" "is_view" (defArgs (topS 16)) (defBody (topS 16)) (defScope (topS 16)) .none kV16 dc16 pm16 an16 cd16 ct16), sl16⟩) (c16 : PySem.W.codeIn K cd16 "is_view" = true) (k16 : PySem.W.keepIn K (.ref f16) = true)
    (a17 : PySem.W.nsIn K mainGlobals "need_view" = some (some (.ref f17))) (l17 : K.lookup f17 = some ⟨oc17, od17, .func (PySem.W.fnOf "need_view" "need_view" (defArgs (topS 17)) (defBody (topS 17)) (defScope (topS 17)) .none kV17 dc17 pm17 an17 cd17 ct17), sl17⟩) (c17 : PySem.W.codeIn K cd17 "need_view" = true) (k17 : PySem.W.keepIn K (.ref f17) = true)
    (a18 : PySem.W.nsIn K mainGlobals "count_values" = some (some (.ref f18))) (l18 : K.lookup f18 = some ⟨oc18, od18, .func (PySem.W.fnOf "count_values" "count_values" (defArgs (topS 18)) (defBody (topS 18)) (defScope (topS 18)) .none kV18 dc18 pm18 an18 cd18 ct18), sl18⟩) (c18 : PySem.W.codeIn K cd18 "count_values" = true) (k18 : PySem.W.keepIn K (.ref f18) = true)
    (a19 : PySem.W.nsIn K mainGlobals "need_state" = some (some (.ref f19))) (l19 : K.lookup f19 = some ⟨oc19, od19, .func (PySem.W.fnOf "need_state" "need_state" (defArgs (topS 19)) (defBody (topS 19)) (defScope (topS 19)) .none kV19 dc19 pm19 an19 cd19 ct19), sl19⟩) (c19 : PySem.W.codeIn K cd19 "need_state" = true) (k19 : PySem.W.keepIn K (.ref f19) = true)
    (a20 : PySem.W.nsIn K mainGlobals "need_value" = some (some (.ref f20))) (l20 : K.lookup f20 = some ⟨oc20, od20, .func (PySem.W.fnOf "need_value" "need_value" (defArgs (topS 20)) (defBody (topS 20)) (defScope (topS 20)) .none kV20 dc20 pm20 an20 cd20 ct20), sl20⟩) (c20 : PySem.W.codeIn K cd20 "need_value" = true) (k20 : PySem.W.keepIn K (.ref f20) = true)
    (a22 : PySem.W.nsIn K mainGlobals "_is_row" = some (some (.ref f22))) (l22 : K.lookup f22 = some ⟨oc22, od22, .func (PySem.W.fnOf "_is_row" "_is_row" (defArgs (topS 22)) (defBody (topS 22)) (defScope (topS 22)) .none kV22 dc22 pm22 an22 cd22 ct22), sl22⟩) (c22 : PySem.W.codeIn K cd22 "_is_row" = true) (k22 : PySem.W.keepIn K (.ref f22) = true)
    (a21 : PySem.W.nsIn K mainGlobals "is_table" = some (some (.ref f21))) (l21 : K.lookup f21 = some ⟨oc21, od21, .func (PySem.W.fnOf "is_table" "is_table" (defArgs (topS 21)) (defBody (topS 21)) (defScope (topS 21)) .none kV21 dc21 pm21 an21 cd21 ct21), sl21⟩) (c21 : PySem.W.codeIn K cd21 "is_table" = true) (k21 : PySem.W.keepIn K (.ref f21) = true)
    (a23 : PySem.W.nsIn K mainGlobals "need_table" = some (some (.ref f23))) (l23 : K.lookup f23 = some ⟨oc23, od23, .func (PySem.W.fnOf "need_table" "need_table" (defArgs (topS 23)) (defBody (topS 23)) (defScope (topS 23)) .none kV23 dc23 pm23 an23 cd23 ct23), sl23⟩) (c23 : PySem.W.codeIn K cd23 "need_table" = true) (k23 : PySem.W.keepIn K (.ref f23) = true)
    (a27 : PySem.W.nsIn K mainGlobals "_broken_forget" = some (some (.ref f27))) (l27 : K.lookup f27 = some ⟨oc27, od27, .func (PySem.W.fnOf "_broken_forget" "_broken_forget" (defArgs (topS 27)) (defBody (topS 27)) (defScope (topS 27)) .none kV27 dc27 pm27 an27 cd27 ct27), sl27⟩) (c27 : PySem.W.codeIn K cd27 "_broken_forget" = true) (k27 : PySem.W.keepIn K (.ref f27) = true)
    (a26 : PySem.W.nsIn K mainGlobals "_broken_shown" = some (some (.ref f26))) (l26 : K.lookup f26 = some ⟨oc26, od26, .func (PySem.W.fnOf "_broken_shown" "_broken_shown" (defArgs (topS 26)) (defBody (topS 26)) (defScope (topS 26)) .none kV26 dc26 pm26 an26 cd26 ct26), sl26⟩) (c26 : PySem.W.codeIn K cd26 "_broken_shown" = true) (k26 : PySem.W.keepIn K (.ref f26) = true)
    (a25 : PySem.W.nsIn K mainGlobals "_broken_stay" = some (some (.ref f25))) (l25 : K.lookup f25 = some ⟨oc25, od25, .func (PySem.W.fnOf "_broken_stay" "_broken_stay" (defArgs (topS 25)) (defBody (topS 25)) (defScope (topS 25)) .none kV25 dc25 pm25 an25 cd25 ct25), sl25⟩) (c25 : PySem.W.codeIn K cd25 "_broken_stay" = true) (k25 : PySem.W.keepIn K (.ref f25) = true)
    (a24 : PySem.W.nsIn K mainGlobals "broken" = some (some (.ref f24))) (l24 : K.lookup f24 = some ⟨oc24, od24, .func (PySem.W.fnOf "broken" "broken" (defArgs (topS 24)) (defBody (topS 24)) (defScope (topS 24)) .none kV24 dc24 pm24 an24 cd24 ct24), sl24⟩) (c24 : PySem.W.codeIn K cd24 "broken" = true) (k24 : PySem.W.keepIn K (.ref f24) = true)
    (a28 : PySem.W.nsIn K mainGlobals "need_sound" = some (some (.ref f28))) (l28 : K.lookup f28 = some ⟨oc28, od28, .func (PySem.W.fnOf "need_sound" "need_sound" (defArgs (topS 28)) (defBody (topS 28)) (defScope (topS 28)) .none kV28 dc28 pm28 an28 cd28 ct28), sl28⟩) (c28 : PySem.W.codeIn K cd28 "need_sound" = true) (k28 : PySem.W.keepIn K (.ref f28) = true)
    (a29 : PySem.W.nsIn K mainGlobals "written" = some (some (.ref f29))) (l29 : K.lookup f29 = some ⟨oc29, od29, .func (PySem.W.fnOf "written" "written" (defArgs (topS 29)) (defBody (topS 29)) (defScope (topS 29)) .none kV29 dc29 pm29 an29 cd29 ct29), sl29⟩) (c29 : PySem.W.codeIn K cd29 "written" = true) (k29 : PySem.W.keepIn K (.ref f29) = true)
    (a32 : PySem.W.nsIn K mainGlobals "_is_part" = some (some (.ref f32))) (l32 : K.lookup f32 = some ⟨oc32, od32, .func (PySem.W.fnOf "_is_part" "_is_part" (defArgs (topS 32)) (defBody (topS 32)) (defScope (topS 32)) .none kV32 dc32 pm32 an32 cd32 ct32), sl32⟩) (c32 : PySem.W.codeIn K cd32 "_is_part" = true) (k32 : PySem.W.keepIn K (.ref f32) = true)
    (a31 : PySem.W.nsIn K mainGlobals "is_parts" = some (some (.ref f31))) (l31 : K.lookup f31 = some ⟨oc31, od31, .func (PySem.W.fnOf "is_parts" "is_parts" (defArgs (topS 31)) (defBody (topS 31)) (defScope (topS 31)) .none kV31 dc31 pm31 an31 cd31 ct31), sl31⟩) (c31 : PySem.W.codeIn K cd31 "is_parts" = true) (k31 : PySem.W.keepIn K (.ref f31) = true)
    (a34 : PySem.W.nsIn K mainGlobals "_results" = some (some (.ref f34))) (l34 : K.lookup f34 = some ⟨oc34, od34, .func (PySem.W.fnOf "_results" "_results" (defArgs (topS 34)) (defBody (topS 34)) (defScope (topS 34)) .none kV34 dc34 pm34 an34 cd34 ct34), sl34⟩) (c34 : PySem.W.codeIn K cd34 "_results" = true) (k34 : PySem.W.keepIn K (.ref f34) = true)
    (a33 : PySem.W.nsIn K mainGlobals "parts_of" = some (some (.ref f33))) (l33 : K.lookup f33 = some ⟨oc33, od33, .func (PySem.W.fnOf "parts_of" "parts_of" (defArgs (topS 33)) (defBody (topS 33)) (defScope (topS 33)) .none kV33 dc33 pm33 an33 cd33 ct33), sl33⟩) (c33 : PySem.W.codeIn K cd33 "parts_of" = true) (k33 : PySem.W.keepIn K (.ref f33) = true)
    (a36 : PySem.W.nsIn K mainGlobals "_row_of" = some (some (.ref f36))) (l36 : K.lookup f36 = some ⟨oc36, od36, .func (PySem.W.fnOf "_row_of" "_row_of" (defArgs (topS 36)) (defBody (topS 36)) (defScope (topS 36)) .none kV36 dc36 pm36 an36 cd36 ct36), sl36⟩) (c36 : PySem.W.codeIn K cd36 "_row_of" = true) (k36 : PySem.W.keepIn K (.ref f36) = true)
    (a35 : PySem.W.nsIn K mainGlobals "table_of" = some (some (.ref f35))) (l35 : K.lookup f35 = some ⟨oc35, od35, .func (PySem.W.fnOf "table_of" "table_of" (defArgs (topS 35)) (defBody (topS 35)) (defScope (topS 35)) .none kV35 dc35 pm35 an35 cd35 ct35), sl35⟩) (c35 : PySem.W.codeIn K cd35 "table_of" = true) (k35 : PySem.W.keepIn K (.ref f35) = true)
    (a48 : PySem.W.nsIn K mainGlobals "_law_cell_at" = some (some (.ref f48))) (l48 : K.lookup f48 = some ⟨oc48, od48, .func (PySem.W.fnOf "_law_cell_at" "_law_cell_at" (defArgs (topS 48)) (defBody (topS 48)) (defScope (topS 48)) .none kV48 dc48 pm48 an48 cd48 ct48), sl48⟩) (c48 : PySem.W.codeIn K cd48 "_law_cell_at" = true) (k48 : PySem.W.keepIn K (.ref f48) = true)
    (a49 : PySem.W.nsIn K mainGlobals "_law_pen" = some (some (.ref f49))) (l49 : K.lookup f49 = some ⟨oc49, od49, .func (PySem.W.fnOf "_law_pen" "_law_pen" (defArgs (topS 49)) (defBody (topS 49)) (defScope (topS 49)) .none kV49 dc49 pm49 an49 cd49 ct49), sl49⟩) (c49 : PySem.W.codeIn K cd49 "_law_pen" = true) (k49 : PySem.W.keepIn K (.ref f49) = true)
    (a50 : PySem.W.nsIn K mainGlobals "_law_draw" = some (some (.ref f50))) (l50 : K.lookup f50 = some ⟨oc50, od50, .func (PySem.W.fnOf "_law_draw" "_law_draw" (defArgs (topS 50)) (defBody (topS 50)) (defScope (topS 50)) .none kV50 dc50 pm50 an50 cd50 ct50), sl50⟩) (c50 : PySem.W.codeIn K cd50 "_law_draw" = true) (k50 : PySem.W.keepIn K (.ref f50) = true)
    (a51 : PySem.W.nsIn K mainGlobals "_law_view" = some (some (.ref f51))) (l51 : K.lookup f51 = some ⟨oc51, od51, .func (PySem.W.fnOf "_law_view" "_law_view" (defArgs (topS 51)) (defBody (topS 51)) (defScope (topS 51)) .none kV51 dc51 pm51 an51 cd51 ct51), sl51⟩) (c51 : PySem.W.codeIn K cd51 "_law_view" = true) (k51 : PySem.W.keepIn K (.ref f51) = true)
    (a52 : PySem.W.nsIn K mainGlobals "_law_parts" = some (some (.ref f52))) (l52 : K.lookup f52 = some ⟨oc52, od52, .func (PySem.W.fnOf "_law_parts" "_law_parts" (defArgs (topS 52)) (defBody (topS 52)) (defScope (topS 52)) .none kV52 dc52 pm52 an52 cd52 ct52), sl52⟩) (c52 : PySem.W.codeIn K cd52 "_law_parts" = true) (k52 : PySem.W.keepIn K (.ref f52) = true)
    (a53 : PySem.W.nsIn K mainGlobals "_law_table" = some (some (.ref f53))) (l53 : K.lookup f53 = some ⟨oc53, od53, .func (PySem.W.fnOf "_law_table" "_law_table" (defArgs (topS 53)) (defBody (topS 53)) (defScope (topS 53)) .none kV53 dc53 pm53 an53 cd53 ct53), sl53⟩) (c53 : PySem.W.codeIn K cd53 "_law_table" = true) (k53 : PySem.W.keepIn K (.ref f53) = true)
    (a62 : PySem.W.findIn K (.ref C45) "put" = some (some (.ref f62)))
    (l62 : K.lookup f62 = some ⟨oc62, od62, .func (PySem.W.fnOf "put" "View.put" (defArgs (metS 45 6)) (defBody (metS 45 6)) (defScope (metS 45 6)) .none kV62 dc62 pm62 an62 cd62 ct62), sl62⟩)
    (c62 : PySem.W.codeIn K cd62 "View.put" = true)
    (k62 : PySem.W.keepIn K (.ref f62) = true)
    (fn62 : PySem.W.isFn K (.ref f62) = true)
    (a54 : PySem.W.nsIn K mainGlobals "_law_put" = some (some (.ref f54))) (l54 : K.lookup f54 = some ⟨oc54, od54, .func (PySem.W.fnOf "_law_put" "_law_put" (defArgs (topS 54)) (defBody (topS 54)) (defScope (topS 54)) .none kV54 dc54 pm54 an54 cd54 ct54), sl54⟩) (c54 : PySem.W.codeIn K cd54 "_law_put" = true) (k54 : PySem.W.keepIn K (.ref f54) = true)
    (a63 : PySem.W.findIn K (.ref C45) "may" = some (some (.ref f63)))
    (l63 : K.lookup f63 = some ⟨oc63, od63, .func (PySem.W.fnOf "may" "View.may" (defArgs (metS 45 7)) (defBody (metS 45 7)) (defScope (metS 45 7)) .none kV63 dc63 pm63 an63 cd63 ct63), sl63⟩)
    (c63 : PySem.W.codeIn K cd63 "View.may" = true)
    (k63 : PySem.W.keepIn K (.ref f63) = true)
    (fn63 : PySem.W.isFn K (.ref f63) = true)
    (a60 : PySem.W.findIn K (.ref C45) "parts" = some (some (.ref pr60)))
    (g60 : PySem.W.specialIn K (.ref pr60) "__get__" = some (some (.builtin "property.__get__")))
    (t60 : PySem.W.takesIn K (.ref pr60) = some true)
    (r60 : PySem.W.recIn K pr60 "property" = some (.ref f60 :: rs60))
    (l60 : K.lookup f60 = some ⟨oc60, od60, .func (PySem.W.fnOf "parts" "View.parts" (defArgs (metS 45 4)) (defBody (metS 45 4)) (defScope (metS 45 4)) .none kV60 dc60 pm60 an60 cd60 ct60), sl60⟩)
    (c60 : PySem.W.codeIn K cd60 "View.parts" = true)
    (k60 : PySem.W.keepIn K (.ref f60) = true)
    (a64 : PySem.W.findIn K (.ref C45) "reachable" = some (some (.ref f64)))
    (l64 : K.lookup f64 = some ⟨oc64, od64, .func (PySem.W.fnOf "reachable" "View.reachable" (defArgs (metS 45 8)) (defBody (metS 45 8)) (defScope (metS 45 8)) .none kV64 dc64 pm64 an64 cd64 ct64), sl64⟩)
    (c64 : PySem.W.codeIn K cd64 "View.reachable" = true)
    (k64 : PySem.W.keepIn K (.ref f64) = true)
    (fn64 : PySem.W.isFn K (.ref f64) = true)
    (a58 : PySem.W.findIn K (.ref C45) "shown" = some (some (.ref pr58)))
    (g58 : PySem.W.specialIn K (.ref pr58) "__get__" = some (some (.builtin "property.__get__")))
    (t58 : PySem.W.takesIn K (.ref pr58) = some true)
    (r58 : PySem.W.recIn K pr58 "property" = some (.ref f58 :: rs58))
    (l58 : K.lookup f58 = some ⟨oc58, od58, .func (PySem.W.fnOf "shown" "View.shown" (defArgs (metS 45 2)) (defBody (metS 45 2)) (defScope (metS 45 2)) .none kV58 dc58 pm58 an58 cd58 ct58), sl58⟩)
    (c58 : PySem.W.codeIn K cd58 "View.shown" = true)
    (k58 : PySem.W.keepIn K (.ref f58) = true)
    (a59 : PySem.W.findIn K (.ref C45) "table" = some (some (.ref pr59)))
    (g59 : PySem.W.specialIn K (.ref pr59) "__get__" = some (some (.builtin "property.__get__")))
    (t59 : PySem.W.takesIn K (.ref pr59) = some true)
    (r59 : PySem.W.recIn K pr59 "property" = some (.ref f59 :: rs59))
    (l59 : K.lookup f59 = some ⟨oc59, od59, .func (PySem.W.fnOf "table" "View.table" (defArgs (metS 45 3)) (defBody (metS 45 3)) (defScope (metS 45 3)) .none kV59 dc59 pm59 an59 cd59 ct59), sl59⟩)
    (c59 : PySem.W.codeIn K cd59 "View.table" = true)
    (k59 : PySem.W.keepIn K (.ref f59) = true)
    (a61 : PySem.W.findIn K (.ref C45) "value_at" = some (some (.ref f61)))
    (l61 : K.lookup f61 = some ⟨oc61, od61, .func (PySem.W.fnOf "value_at" "View.value_at" (defArgs (metS 45 5)) (defBody (metS 45 5)) (defScope (metS 45 5)) .none kV61 dc61 pm61 an61 cd61 ct61), sl61⟩)
    (c61 : PySem.W.codeIn K cd61 "View.value_at" = true)
    (k61 : PySem.W.keepIn K (.ref f61) = true)
    (fn61 : PySem.W.isFn K (.ref f61) = true)
    (a55 : PySem.W.nsIn K mainGlobals "_law_answers" = some (some (.ref f55))) (l55 : K.lookup f55 = some ⟨oc55, od55, .func (PySem.W.fnOf "_law_answers" "_law_answers" (defArgs (topS 55)) (defBody (topS 55)) (defScope (topS 55)) .none kV55 dc55 pm55 an55 cd55 ct55), sl55⟩) (c55 : PySem.W.codeIn K cd55 "_law_answers" = true) (k55 : PySem.W.keepIn K (.ref f55) = true)
    (a57 : PySem.W.findIn K (.ref C45) "__init__" = some (some (.ref f57)))
    (l57 : K.lookup f57 = some ⟨oc57, od57, .func (PySem.W.fnOf "__init__" "View.__init__" (defArgs (metS 45 1)) (defBody (metS 45 1)) (defScope (metS 45 1)) .none kV57 dc57 pm57 an57 cd57 ct57), sl57⟩)
    (c57 : PySem.W.codeIn K cd57 "View.__init__" = true)
    (k57 : PySem.W.keepIn K (.ref f57) = true)
    (fn57 : PySem.W.isFn K (.ref f57) = true)
    (a68 : PySem.W.findIn K (.ref C46) "__init__" = some (some (.ref f68)))
    (l68 : K.lookup f68 = some ⟨oc68, od68, .func (PySem.W.ksFn "__init__" "TableView.__init__" (defArgs (metS 46 0)) (defBody (metS 46 0)) (defScope (metS 46 0)) .none kV68 dc68 pm68 an68 (.ref cda68) ct68 cc68), sl68⟩)
    (c68 : PySem.W.codeIn K (.ref cda68) "TableView.__init__" = true)
    (la68 : K.lookup cda68 = some ⟨ra68, rb68, .fields rv68, rsl68⟩)
    (y68_2 : rv68[2]? = some (.str rf68 rt68))
    (y68_3 : ((l.prog.main.file : Str) == rf68) = true)
    (lb68 : K.lookup cc68 = some ⟨rg68, rh68, .cell (some (.ref C46)), rk68⟩)
    (ck68 : PySem.W.clsIn K C46 = some cdt68)
    (cv68 : PySem.W.clsIn K C45 = some cvt68)
    (y68_m : cdt68.mro = .ref C46 :: cvt68.mro)
    (k68 : PySem.W.keepIn K (.ref f68) = true)
    (fn68 : PySem.W.isFn K (.ref f68) = true)
    (a56 : PySem.W.nsIn K mainGlobals "law" = some (some (.ref f56))) (l56 : K.lookup f56 = some ⟨oc56, od56, .func (PySem.W.fnOf "law" "law" (defArgs (topS 56)) (defBody (topS 56)) (defScope (topS 56)) .none kV56 dc56 pm56 an56 cd56 ct56), sl56⟩) (c56 : PySem.W.codeIn K cd56 "law" = true) (k56 : PySem.W.keepIn K (.ref f56) = true)
    (a6 : PySem.W.nsIn K mainGlobals "NoParts" = some (some (.ref C6))) (x6 : PySem.W.excIn K C6 [.type "ValueError", .type "Exception", .type "BaseException", .type "object"] "ValueError.__new__" = true) (k6 : PySem.W.keepIn K (.ref C6) = true) (s6 : PySem.W.subIn K (.ref C6) (.type "BaseException") = some true) (t6 : PySem.W.typeIn K (.ref C6) = some (.type "type"))
    (a7 : PySem.W.nsIn K mainGlobals "NoState" = some (some (.ref C7))) (x7 : PySem.W.excIn K C7 [.type "ValueError", .type "Exception", .type "BaseException", .type "object"] "ValueError.__new__" = true) (k7 : PySem.W.keepIn K (.ref C7) = true) (s7 : PySem.W.subIn K (.ref C7) (.type "BaseException") = some true) (t7 : PySem.W.typeIn K (.ref C7) = some (.type "type"))
    (a4 : PySem.W.nsIn K mainGlobals "NoTable" = some (some (.ref C4))) (x4 : PySem.W.excIn K C4 [.type "ValueError", .type "Exception", .type "BaseException", .type "object"] "ValueError.__new__" = true) (k4 : PySem.W.keepIn K (.ref C4) = true) (s4 : PySem.W.subIn K (.ref C4) (.type "BaseException") = some true) (t4 : PySem.W.typeIn K (.ref C4) = some (.type "type"))
    (a8 : PySem.W.nsIn K mainGlobals "NoValue" = some (some (.ref C8))) (x8 : PySem.W.excIn K C8 [.type "ValueError", .type "Exception", .type "BaseException", .type "object"] "ValueError.__new__" = true) (k8 : PySem.W.keepIn K (.ref C8) = true) (s8 : PySem.W.subIn K (.ref C8) (.type "BaseException") = some true) (t8 : PySem.W.typeIn K (.ref C8) = some (.type "type"))
    (a3 : PySem.W.nsIn K mainGlobals "NoView" = some (some (.ref C3))) (x3 : PySem.W.excIn K C3 [.type "ValueError", .type "Exception", .type "BaseException", .type "object"] "ValueError.__new__" = true) (k3 : PySem.W.keepIn K (.ref C3) = true) (s3 : PySem.W.subIn K (.ref C3) (.type "BaseException") = some true) (t3 : PySem.W.typeIn K (.ref C3) = some (.type "type"))
    (a5 : PySem.W.nsIn K mainGlobals "NotSound" = some (some (.ref C5))) (x5 : PySem.W.excIn K C5 [.type "ValueError", .type "Exception", .type "BaseException", .type "object"] "ValueError.__new__" = true) (k5 : PySem.W.keepIn K (.ref C5) = true) (s5 : PySem.W.subIn K (.ref C5) (.type "BaseException") = some true) (t5 : PySem.W.typeIn K (.ref C5) = some (.type "type"))
    (a9 : PySem.W.nsIn K mainGlobals "Refused" = some (some (.ref C9))) (x9 : PySem.W.excIn K C9 [.type "ValueError", .type "Exception", .type "BaseException", .type "object"] "ValueError.__new__" = true) (k9 : PySem.W.keepIn K (.ref C9) = true) (s9 : PySem.W.subIn K (.ref C9) (.type "BaseException") = some true) (t9 : PySem.W.typeIn K (.ref C9) = some (.type "type"))
    (d9 : PySem.W.hasDictIn K C9 = true)
    (u6_9 : PySem.W.subIn K (.ref C6) (.ref C9) = some false)
    (u7_9 : PySem.W.subIn K (.ref C7) (.ref C9) = some false)
    (u4_9 : PySem.W.subIn K (.ref C4) (.ref C9) = some false)
    (u8_9 : PySem.W.subIn K (.ref C8) (.ref C9) = some false)
    (u3_9 : PySem.W.subIn K (.ref C3) (.ref C9) = some false)
    (u5_9 : PySem.W.subIn K (.ref C5) (.ref C9) = some false)
    (u9_9 : PySem.W.subIn K (.ref C9) (.ref C9) = some true)
    (fi57 : PySem.W.fnIn K f57 = true)
    (ty57 : PySem.W.typeIn K (.ref f57) = some (.type "function"))
    (opq : PySem.W.nsIn K cStatics "thirdparty.any" = some none)
    (zsup : PySem.W.nsIn K mainGlobals "super" = some none)
    (ytop : (l.prog.main.scope.names.lookup ("super" : Str)).isSome = false)
    (on : PySem.W.specialIn K (.builtin "object.__class__") "__get__" = some (some (.builtin "getset_descriptor.__get__")))
    (ot : PySem.W.takesIn K (.builtin "object.__class__") = some true)
    (w45_1 : PySem.W.findIn K (.ref C45) "shown" = vq1)
    (w45_2 : PySem.W.findIn K (.ref C45) "table" = vq2)
    (w45_3 : PySem.W.findIn K (.ref C45) "parts" = vq3)
    (w45_4 : PySem.W.findIn K (.ref C45) "value_at" = vq4)
    (w45_5 : PySem.W.findIn K (.ref C45) "may" = vq5)
    (w45_6 : PySem.W.findIn K (.ref C45) "reachable" = vq6)
    (w45_7 : PySem.W.findIn K (.ref C45) "__eq__" = vq7)
    (w45_8 : PySem.W.findIn K (.ref C45) "__repr__" = vq8)
    (w45_9 : PySem.W.findIn K (.ref C45) "put" = vq9)
    (w46_1 : PySem.W.findIn K (.ref C46) "shown" = vq1)
    (w46_2 : PySem.W.findIn K (.ref C46) "table" = vq2)
    (w46_3 : PySem.W.findIn K (.ref C46) "parts" = vq3)
    (w46_4 : PySem.W.findIn K (.ref C46) "value_at" = vq4)
    (w46_5 : PySem.W.findIn K (.ref C46) "may" = vq5)
    (w46_6 : PySem.W.findIn K (.ref C46) "reachable" = vq6)
    (w46_7 : PySem.W.findIn K (.ref C46) "__eq__" = vq7)
    (w46_8 : PySem.W.findIn K (.ref C46) "__repr__" = vq8)
    (w46_9 : PySem.W.findIn K (.ref C46) "put" = vq9)
    (wa45 : PySem.W.plainGet K C45 Str.empty = true)
    (wb45 : PySem.W.hasDictIn K C45 = true)
    (wc45 : PySem.W.plainOver K C45 = true)
    (wd45 : PySem.W.findIn K (.ref C45) "__setattr__" = some (some (.builtin "object.__setattr__")))
    (we45 : PySem.W.findIn K (.ref C45) "__class__" = some (some (.builtin "object.__class__")))
    (wf45 : PySem.W.mroIn K C45 (.type "object") = some true)
    (wg45 : PySem.W.mroIn K C45 (.ref C45) = some true)
    (wn45_1 : PySem.W.findIn K (.ref C45) "_shown" = some none)
    (wn45_2 : PySem.W.findIn K (.ref C45) "_table" = some none)
    (wn45_3 : PySem.W.findIn K (.ref C45) "_kept" = some none)
    (wn45_4 : PySem.W.findIn K (.ref C45) "_log" = some none)
    (wn45_5 : PySem.W.findIn K (.ref C45) "_tuples" = some none)
    (wn45_6 : PySem.W.findIn K (.ref C45) "_wishes" = some none)
    (wn45_7 : PySem.W.findIn K (.ref C45) "_views" = some none)
    (wn45_8 : PySem.W.findIn K (.ref C45) "_state" = some none)
    (wn45_9 : PySem.W.findIn K (.ref C45) "_before" = some none)
    (wn45_10 : PySem.W.findIn K (.ref C45) "_desk" = some none)
    (wn45_11 : PySem.W.findIn K (.ref C45) "_number" = some none)
    (q45_int : PySem.W.kitOne K (.ref C45) (.type "int") = some false)
    (q45_bool : PySem.W.kitOne K (.ref C45) (.type "bool") = some false)
    (q45_str : PySem.W.kitOne K (.ref C45) (.type "str") = some false)
    (q45_list : PySem.W.kitOne K (.ref C45) (.type "list") = some false)
    (q45_tuple : PySem.W.kitOne K (.ref C45) (.type "tuple") = some false)
    (wm45 : PySem.W.makesIn K C45 = true)
    (wk45 : PySem.W.keepIn K (.ref C45) = true)
    (wa46 : PySem.W.plainGet K C46 Str.empty = true)
    (wb46 : PySem.W.hasDictIn K C46 = true)
    (wc46 : PySem.W.plainOver K C46 = true)
    (wd46 : PySem.W.findIn K (.ref C46) "__setattr__" = some (some (.builtin "object.__setattr__")))
    (we46 : PySem.W.findIn K (.ref C46) "__class__" = some (some (.builtin "object.__class__")))
    (wf46 : PySem.W.mroIn K C46 (.type "object") = some true)
    (wg46 : PySem.W.mroIn K C46 (.ref C46) = some true)
    (wn46_1 : PySem.W.findIn K (.ref C46) "_shown" = some none)
    (wn46_2 : PySem.W.findIn K (.ref C46) "_table" = some none)
    (wn46_3 : PySem.W.findIn K (.ref C46) "_kept" = some none)
    (wn46_4 : PySem.W.findIn K (.ref C46) "_log" = some none)
    (wn46_5 : PySem.W.findIn K (.ref C46) "_tuples" = some none)
    (wn46_6 : PySem.W.findIn K (.ref C46) "_wishes" = some none)
    (wn46_7 : PySem.W.findIn K (.ref C46) "_views" = some none)
    (wn46_8 : PySem.W.findIn K (.ref C46) "_state" = some none)
    (wn46_9 : PySem.W.findIn K (.ref C46) "_before" = some none)
    (wn46_10 : PySem.W.findIn K (.ref C46) "_desk" = some none)
    (wn46_11 : PySem.W.findIn K (.ref C46) "_number" = some none)
    (q46_int : PySem.W.kitOne K (.ref C46) (.type "int") = some false)
    (q46_bool : PySem.W.kitOne K (.ref C46) (.type "bool") = some false)
    (q46_str : PySem.W.kitOne K (.ref C46) (.type "str") = some false)
    (q46_list : PySem.W.kitOne K (.ref C46) (.type "list") = some false)
    (q46_tuple : PySem.W.kitOne K (.ref C46) (.type "tuple") = some false)
    (wm46 : PySem.W.makesIn K C46 = true)
    (wk46 : PySem.W.keepIn K (.ref C46) = true)
    (wr45 : PySem.W.readsIn K C45 (.type "type") = true)
    (wt45 : PySem.W.specialIn K (.ref C45) "__getattribute__" = some (some (.builtin "type.__getattribute__")))
    (wv45_LIMIT : PySem.W.findCls K (.ref C45) (.type "type") "LIMIT" = some (.val (.int 9 ctk_View_LIMIT)))
    (z_all : PySem.W.nsIn K mainGlobals "all" = some none)
    (z_bool : PySem.W.nsIn K mainGlobals "bool" = some none)
    (z_enumerate : PySem.W.nsIn K mainGlobals "enumerate" = some none)
    (z_int : PySem.W.nsIn K mainGlobals "int" = some none)
    (z_isinstance : PySem.W.nsIn K mainGlobals "isinstance" = some none)
    (z_len : PySem.W.nsIn K mainGlobals "len" = some none)
    (z_list : PySem.W.nsIn K mainGlobals "list" = some none)
    (z_max : PySem.W.nsIn K mainGlobals "max" = some none)
    (z_range : PySem.W.nsIn K mainGlobals "range" = some none)
    (z_set : PySem.W.nsIn K mainGlobals "set" = some none)
    (z_sorted : PySem.W.nsIn K mainGlobals "sorted" = some none)
    (z_tuple : PySem.W.nsIn K mainGlobals "tuple" = some none)
    (v_MOST_STATES : PySem.W.nsIn K mainGlobals "MOST_STATES" = some (some (.int 9 t_MOST_STATES)))
    : ∃ fd : FuncData, (∀ (s : Shared) (v : Value), BindsTo s fd ⟨[v], []⟩ [("_law_script", v)]) ∧ ∀ base : Heap, K.In base → base.Ns mainGlobals mg → FnG l.prog w K mg base 13 fa fd ["_law_script"] (spTop K) := by
  have e := hfa.symm.trans (PySem.W.mg_of X G a56)
  cases e
  let adr : Nat → Addr := fun i => ([0, 0, 0, C3, C4, C5, C6, C7, C8, C9, 0, 0, f12, f13, 0, 0, f16, f17, f18, f19, f20, f21, f22, f23, f24, f25, f26, f27, f28, f29, 0, f31, f32, f33, f34, f35, f36, 0, 0, 0, 0, 0, 0, 0, 0, C45, C46, 0, f48, f49, f50, f51, f52, f53, f54, f55, fa, f57, f58, f59, f60, f61, f62, f63, f64, 0, 0, 0, f68, pr58, pr59, pr60, cda68, cc68] : List Addr).getD i 0
  let fds : Nat → FuncData := fun i => ([(PySem.W.fnOf "law" "law" (defArgs (topS 56)) (defBody (topS 56)) (defScope (topS 56)) .none kV56 dc56 pm56 an56 cd56 ct56), (PySem.W.fnOf "law" "law" (defArgs (topS 56)) (defBody (topS 56)) (defScope (topS 56)) .none kV56 dc56 pm56 an56 cd56 ct56), (PySem.W.fnOf "law" "law" (defArgs (topS 56)) (defBody (topS 56)) (defScope (topS 56)) .none kV56 dc56 pm56 an56 cd56 ct56), (PySem.W.fnOf "law" "law" (defArgs (topS 56)) (defBody (topS 56)) (defScope (topS 56)) .none kV56 dc56 pm56 an56 cd56 ct56), (PySem.W.fnOf "law" "law" (defArgs (topS 56)) (defBody (topS 56)) (defScope (topS 56)) .none kV56 dc56 pm56 an56 cd56 ct56), (PySem.W.fnOf "law" "law" (defArgs (topS 56)) (defBody (topS 56)) (defScope (topS 56)) .none kV56 dc56 pm56 an56 cd56 ct56), (PySem.W.fnOf "law" "law" (defArgs (topS 56)) (defBody (topS 56)) (defScope (topS 56)) .none kV56 dc56 pm56 an56 cd56 ct56), (PySem.W.fnOf "law" "law" (defArgs (topS 56)) (defBody (topS 56)) (defScope (topS 56)) .none kV56 dc56 pm56 an56 cd56 ct56), (PySem.W.fnOf "law" "law" (defArgs (topS 56)) (defBody (topS 56)) (defScope (topS 56)) .none kV56 dc56 pm56 an56 cd56 ct56), (PySem.W.fnOf "law" "law" (defArgs (topS 56)) (defBody (topS 56)) (defScope (topS 56)) .none kV56 dc56 pm56 an56 cd56 ct56), (PySem.W.fnOf "law" "law" (defArgs (topS 56)) (defBody (topS 56)) (defScope (topS 56)) .none kV56 dc56 pm56 an56 cd56 ct56), (PySem.W.fnOf "law" "law" (defArgs (topS 56)) (defBody (topS 56)) (defScope (topS 56)) .none kV56 dc56 pm56 an56 cd56 ct56), (PySem.W.fnOf "is_whole" "is_whole" (defArgs (topS 12)) (defBody (topS 12)) (defScope (topS 12)) .none kV12 dc12 pm12 an12 cd12 ct12), (PySem.W.fnOf "is_below" "is_below" (defArgs (topS 13)) (defBody (topS 13)) (defScope (topS 13)) .none kV13 dc13 pm13 an13 cd13 ct13), (PySem.W.fnOf "law" "law" (defArgs (topS 56)) (defBody (topS 56)) (defScope (topS 56)) .none kV56 dc56 pm56 an56 cd56 ct56), (PySem.W.fnOf "law" "law" (defArgs (topS 56)) (defBody (topS 56)) (defScope (topS 56)) .none kV56 dc56 pm56 an56 cd56 ct56), (PySem.W.fnOf "is_view" "is_view" (defArgs (topS 16)) (defBody (topS 16)) (defScope (topS 16)) .none kV16 dc16 pm16 an16 cd16 ct16), (PySem.W.fnOf "need_view" "need_view" (defArgs (topS 17)) (defBody (topS 17)) (defScope (topS 17)) .none kV17 dc17 pm17 an17 cd17 ct17), (PySem.W.fnOf "count_values" "count_values" (defArgs (topS 18)) (defBody (topS 18)) (defScope (topS 18)) .none kV18 dc18 pm18 an18 cd18 ct18), (PySem.W.fnOf "need_state" "need_state" (defArgs (topS 19)) (defBody (topS 19)) (defScope (topS 19)) .none kV19 dc19 pm19 an19 cd19 ct19), (PySem.W.fnOf "need_value" "need_value" (defArgs (topS 20)) (defBody (topS 20)) (defScope (topS 20)) .none kV20 dc20 pm20 an20 cd20 ct20), (PySem.W.fnOf "is_table" "is_table" (defArgs (topS 21)) (defBody (topS 21)) (defScope (topS 21)) .none kV21 dc21 pm21 an21 cd21 ct21), (PySem.W.fnOf "_is_row" "_is_row" (defArgs (topS 22)) (defBody (topS 22)) (defScope (topS 22)) .none kV22 dc22 pm22 an22 cd22 ct22), (PySem.W.fnOf "need_table" "need_table" (defArgs (topS 23)) (defBody (topS 23)) (defScope (topS 23)) .none kV23 dc23 pm23 an23 cd23 ct23), (PySem.W.fnOf "broken" "broken" (defArgs (topS 24)) (defBody (topS 24)) (defScope (topS 24)) .none kV24 dc24 pm24 an24 cd24 ct24), (PySem.W.fnOf "_broken_stay" "_broken_stay" (defArgs (topS 25)) (defBody (topS 25)) (defScope (topS 25)) .none kV25 dc25 pm25 an25 cd25 ct25), (PySem.W.fnOf "_broken_shown" "_broken_shown" (defArgs (topS 26)) (defBody (topS 26)) (defScope (topS 26)) .none kV26 dc26 pm26 an26 cd26 ct26), (PySem.W.fnOf "_broken_forget" "_broken_forget" (defArgs (topS 27)) (defBody (topS 27)) (defScope (topS 27)) .none kV27 dc27 pm27 an27 cd27 ct27), (PySem.W.fnOf "need_sound" "need_sound" (defArgs (topS 28)) (defBody (topS 28)) (defScope (topS 28)) .none kV28 dc28 pm28 an28 cd28 ct28), (PySem.W.fnOf "written" "written" (defArgs (topS 29)) (defBody (topS 29)) (defScope (topS 29)) .none kV29 dc29 pm29 an29 cd29 ct29), (PySem.W.fnOf "law" "law" (defArgs (topS 56)) (defBody (topS 56)) (defScope (topS 56)) .none kV56 dc56 pm56 an56 cd56 ct56), (PySem.W.fnOf "is_parts" "is_parts" (defArgs (topS 31)) (defBody (topS 31)) (defScope (topS 31)) .none kV31 dc31 pm31 an31 cd31 ct31), (PySem.W.fnOf "_is_part" "_is_part" (defArgs (topS 32)) (defBody (topS 32)) (defScope (topS 32)) .none kV32 dc32 pm32 an32 cd32 ct32), (PySem.W.fnOf "parts_of" "parts_of" (defArgs (topS 33)) (defBody (topS 33)) (defScope (topS 33)) .none kV33 dc33 pm33 an33 cd33 ct33), (PySem.W.fnOf "_results" "_results" (defArgs (topS 34)) (defBody (topS 34)) (defScope (topS 34)) .none kV34 dc34 pm34 an34 cd34 ct34), (PySem.W.fnOf "table_of" "table_of" (defArgs (topS 35)) (defBody (topS 35)) (defScope (topS 35)) .none kV35 dc35 pm35 an35 cd35 ct35), (PySem.W.fnOf "_row_of" "_row_of" (defArgs (topS 36)) (defBody (topS 36)) (defScope (topS 36)) .none kV36 dc36 pm36 an36 cd36 ct36), (PySem.W.fnOf "law" "law" (defArgs (topS 56)) (defBody (topS 56)) (defScope (topS 56)) .none kV56 dc56 pm56 an56 cd56 ct56), (PySem.W.fnOf "law" "law" (defArgs (topS 56)) (defBody (topS 56)) (defScope (topS 56)) .none kV56 dc56 pm56 an56 cd56 ct56), (PySem.W.fnOf "law" "law" (defArgs (topS 56)) (defBody (topS 56)) (defScope (topS 56)) .none kV56 dc56 pm56 an56 cd56 ct56), (PySem.W.fnOf "law" "law" (defArgs (topS 56)) (defBody (topS 56)) (defScope (topS 56)) .none kV56 dc56 pm56 an56 cd56 ct56), (PySem.W.fnOf "law" "law" (defArgs (topS 56)) (defBody (topS 56)) (defScope (topS 56)) .none kV56 dc56 pm56 an56 cd56 ct56), (PySem.W.fnOf "law" "law" (defArgs (topS 56)) (defBody (topS 56)) (defScope (topS 56)) .none kV56 dc56 pm56 an56 cd56 ct56), (PySem.W.fnOf "law" "law" (defArgs (topS 56)) (defBody (topS 56)) (defScope (topS 56)) .none kV56 dc56 pm56 an56 cd56 ct56), (PySem.W.fnOf "law" "law" (defArgs (topS 56)) (defBody (topS 56)) (defScope (topS 56)) .none kV56 dc56 pm56 an56 cd56 ct56), (PySem.W.fnOf "law" "law" (defArgs (topS 56)) (defBody (topS 56)) (defScope (topS 56)) .none kV56 dc56 pm56 an56 cd56 ct56), (PySem.W.fnOf "law" "law" (defArgs (topS 56)) (defBody (topS 56)) (defScope (topS 56)) .none kV56 dc56 pm56 an56 cd56 ct56), (PySem.W.fnOf "law" "law" (defArgs (topS 56)) (defBody (topS 56)) (defScope (topS 56)) .none kV56 dc56 pm56 an56 cd56 ct56), (PySem.W.fnOf "_law_cell_at" "_law_cell_at" (defArgs (topS 48)) (defBody (topS 48)) (defScope (topS 48)) .none kV48 dc48 pm48 an48 cd48 ct48), (PySem.W.fnOf "_law_pen" "_law_pen" (defArgs (topS 49)) (defBody (topS 49)) (defScope (topS 49)) .none kV49 dc49 pm49 an49 cd49 ct49), (PySem.W.fnOf "_law_draw" "_law_draw" (defArgs (topS 50)) (defBody (topS 50)) (defScope (topS 50)) .none kV50 dc50 pm50 an50 cd50 ct50), (PySem.W.fnOf "_law_view" "_law_view" (defArgs (topS 51)) (defBody (topS 51)) (defScope (topS 51)) .none kV51 dc51 pm51 an51 cd51 ct51), (PySem.W.fnOf "_law_parts" "_law_parts" (defArgs (topS 52)) (defBody (topS 52)) (defScope (topS 52)) .none kV52 dc52 pm52 an52 cd52 ct52), (PySem.W.fnOf "_law_table" "_law_table" (defArgs (topS 53)) (defBody (topS 53)) (defScope (topS 53)) .none kV53 dc53 pm53 an53 cd53 ct53), (PySem.W.fnOf "_law_put" "_law_put" (defArgs (topS 54)) (defBody (topS 54)) (defScope (topS 54)) .none kV54 dc54 pm54 an54 cd54 ct54), (PySem.W.fnOf "_law_answers" "_law_answers" (defArgs (topS 55)) (defBody (topS 55)) (defScope (topS 55)) .none kV55 dc55 pm55 an55 cd55 ct55), (PySem.W.fnOf "law" "law" (defArgs (topS 56)) (defBody (topS 56)) (defScope (topS 56)) .none kV56 dc56 pm56 an56 cd56 ct56), (PySem.W.fnOf "__init__" "View.__init__" (defArgs (metS 45 1)) (defBody (metS 45 1)) (defScope (metS 45 1)) .none kV57 dc57 pm57 an57 cd57 ct57), (PySem.W.fnOf "shown" "View.shown" (defArgs (metS 45 2)) (defBody (metS 45 2)) (defScope (metS 45 2)) .none kV58 dc58 pm58 an58 cd58 ct58), (PySem.W.fnOf "table" "View.table" (defArgs (metS 45 3)) (defBody (metS 45 3)) (defScope (metS 45 3)) .none kV59 dc59 pm59 an59 cd59 ct59), (PySem.W.fnOf "parts" "View.parts" (defArgs (metS 45 4)) (defBody (metS 45 4)) (defScope (metS 45 4)) .none kV60 dc60 pm60 an60 cd60 ct60), (PySem.W.fnOf "value_at" "View.value_at" (defArgs (metS 45 5)) (defBody (metS 45 5)) (defScope (metS 45 5)) .none kV61 dc61 pm61 an61 cd61 ct61), (PySem.W.fnOf "put" "View.put" (defArgs (metS 45 6)) (defBody (metS 45 6)) (defScope (metS 45 6)) .none kV62 dc62 pm62 an62 cd62 ct62), (PySem.W.fnOf "may" "View.may" (defArgs (metS 45 7)) (defBody (metS 45 7)) (defScope (metS 45 7)) .none kV63 dc63 pm63 an63 cd63 ct63), (PySem.W.fnOf "reachable" "View.reachable" (defArgs (metS 45 8)) (defBody (metS 45 8)) (defScope (metS 45 8)) .none kV64 dc64 pm64 an64 cd64 ct64), (PySem.W.fnOf "law" "law" (defArgs (topS 56)) (defBody (topS 56)) (defScope (topS 56)) .none kV56 dc56 pm56 an56 cd56 ct56), (PySem.W.fnOf "law" "law" (defArgs (topS 56)) (defBody (topS 56)) (defScope (topS 56)) .none kV56 dc56 pm56 an56 cd56 ct56), (PySem.W.fnOf "law" "law" (defArgs (topS 56)) (defBody (topS 56)) (defScope (topS 56)) .none kV56 dc56 pm56 an56 cd56 ct56), (PySem.W.ksFn "__init__" "TableView.__init__" (defArgs (metS 46 0)) (defBody (metS 46 0)) (defScope (metS 46 0)) .none kV68 dc68 pm68 an68 (.ref cda68) ct68 cc68), (PySem.W.fnOf "law" "law" (defArgs (topS 56)) (defBody (topS 56)) (defScope (topS 56)) .none kV56 dc56 pm56 an56 cd56 ct56), (PySem.W.fnOf "law" "law" (defArgs (topS 56)) (defBody (topS 56)) (defScope (topS 56)) .none kV56 dc56 pm56 an56 cd56 ct56), (PySem.W.fnOf "law" "law" (defArgs (topS 56)) (defBody (topS 56)) (defScope (topS 56)) .none kV56 dc56 pm56 an56 cd56 ct56), (PySem.W.fnOf "law" "law" (defArgs (topS 56)) (defBody (topS 56)) (defScope (topS 56)) .none kV56 dc56 pm56 an56 cd56 ct56), (PySem.W.fnOf "law" "law" (defArgs (topS 56)) (defBody (topS 56)) (defScope (topS 56)) .none kV56 dc56 pm56 an56 cd56 ct56)] : List FuncData).getD i (PySem.W.fnOf "law" "law" (defArgs (topS 56)) (defBody (topS 56)) (defScope (topS 56)) .none kV56 dc56 pm56 an56 cd56 ct56)
  have F12 := fun_mk (st := topS 12) l12 c12 k12
  have b12 := F12.binds (ps := ["thing"]) fun _ _ _ _ _ _ us hl => match us, hl with | [_], _ => rfl
  have F13 := fun_mk (st := topS 13) l13 c13 k13
  have b13 := F13.binds (ps := ["thing", "limit"]) fun _ _ _ _ _ _ us hl => match us, hl with | [_, _], _ => rfl
  have F16 := fun_mk (st := topS 16) l16 c16 k16
  have b16 := F16.binds (ps := ["thing"]) fun _ _ _ _ _ _ us hl => match us, hl with | [_], _ => rfl
  have F17 := fun_mk (st := topS 17) l17 c17 k17
  have b17 := F17.binds (ps := ["view"]) fun _ _ _ _ _ _ us hl => match us, hl with | [_], _ => rfl
  have F18 := fun_mk (st := topS 18) l18 c18 k18
  have b18 := F18.binds (ps := ["view"]) fun _ _ _ _ _ _ us hl => match us, hl with | [_], _ => rfl
  have F19 := fun_mk (st := topS 19) l19 c19 k19
  have b19 := F19.binds (ps := ["view", "thing"]) fun _ _ _ _ _ _ us hl => match us, hl with | [_, _], _ => rfl
  have F20 := fun_mk (st := topS 20) l20 c20 k20
  have b20 := F20.binds (ps := ["view", "thing"]) fun _ _ _ _ _ _ us hl => match us, hl with | [_, _], _ => rfl
  have F22 := fun_mk (st := topS 22) l22 c22 k22
  have b22 := F22.binds (ps := ["view", "thing"]) fun _ _ _ _ _ _ us hl => match us, hl with | [_, _], _ => rfl
  have F21 := fun_mk (st := topS 21) l21 c21 k21
  have b21 := F21.binds (ps := ["view", "thing"]) fun _ _ _ _ _ _ us hl => match us, hl with | [_, _], _ => rfl
  have F23 := fun_mk (st := topS 23) l23 c23 k23
  have b23 := F23.binds (ps := ["view", "table"]) fun _ _ _ _ _ _ us hl => match us, hl with | [_, _], _ => rfl
  have F27 := fun_mk (st := topS 27) l27 c27 k27
  have b27 := F27.binds (ps := ["table"]) fun _ _ _ _ _ _ us hl => match us, hl with | [_], _ => rfl
  have F26 := fun_mk (st := topS 26) l26 c26 k26
  have b26 := F26.binds (ps := ["view", "table"]) fun _ _ _ _ _ _ us hl => match us, hl with | [_, _], _ => rfl
  have F25 := fun_mk (st := topS 25) l25 c25 k25
  have b25 := F25.binds (ps := ["view", "table"]) fun _ _ _ _ _ _ us hl => match us, hl with | [_, _], _ => rfl
  have F24 := fun_mk (st := topS 24) l24 c24 k24
  have b24 := F24.binds (ps := ["view", "table"]) fun _ _ _ _ _ _ us hl => match us, hl with | [_, _], _ => rfl
  have F28 := fun_mk (st := topS 28) l28 c28 k28
  have b28 := F28.binds (ps := ["view", "table"]) fun _ _ _ _ _ _ us hl => match us, hl with | [_, _], _ => rfl
  have F29 := fun_mk (st := topS 29) l29 c29 k29
  have b29 := F29.binds (ps := ["table", "state", "value"]) fun _ _ _ _ _ _ us hl => match us, hl with | [_, _, _], _ => rfl
  have F32 := fun_mk (st := topS 32) l32 c32 k32
  have b32 := F32.binds (ps := ["view", "thing"]) fun _ _ _ _ _ _ us hl => match us, hl with | [_, _], _ => rfl
  have F31 := fun_mk (st := topS 31) l31 c31 k31
  have b31 := F31.binds (ps := ["view", "thing"]) fun _ _ _ _ _ _ us hl => match us, hl with | [_, _], _ => rfl
  have F34 := fun_mk (st := topS 34) l34 c34 k34
  have b34 := F34.binds (ps := ["row"]) fun _ _ _ _ _ _ us hl => match us, hl with | [_], _ => rfl
  have F33 := fun_mk (st := topS 33) l33 c33 k33
  have b33 := F33.binds (ps := ["view", "table"]) fun _ _ _ _ _ _ us hl => match us, hl with | [_, _], _ => rfl
  have F36 := fun_mk (st := topS 36) l36 c36 k36
  have b36 := F36.binds (ps := ["view", "part"]) fun _ _ _ _ _ _ us hl => match us, hl with | [_, _], _ => rfl
  have F35 := fun_mk (st := topS 35) l35 c35 k35
  have b35 := F35.binds (ps := ["view", "parts"]) fun _ _ _ _ _ _ us hl => match us, hl with | [_, _], _ => rfl
  have F48 := fun_mk (st := topS 48) l48 c48 k48
  have b48 := F48.binds (ps := ["_law_script", "_law_k"]) fun _ _ _ _ _ _ us hl => match us, hl with | [_, _], _ => rfl
  have F49 := fun_mk (st := topS 49) l49 c49 k49
  have b49 := F49.binds (ps := ["_law_cell"]) fun _ _ _ _ _ _ us hl => match us, hl with | [_], _ => rfl
  have F50 := fun_mk (st := topS 50) l50 c50 k50
  have b50 := F50.binds (ps := ["_law_pen_here", "_law_many"]) fun _ _ _ _ _ _ us hl => match us, hl with | [_, _], _ => rfl
  have F51 := fun_mk (st := topS 51) l51 c51 k51
  have b51 := F51.binds (ps := ["_law_pen_here", "_law_low", "_law_high"]) fun _ _ _ _ _ _ us hl => match us, hl with | [_, _, _], _ => rfl
  have F52 := fun_mk (st := topS 52) l52 c52 k52
  have b52 := F52.binds (ps := ["_law_pen_here", "_law_view_here"]) fun _ _ _ _ _ _ us hl => match us, hl with | [_, _], _ => rfl
  have F53 := fun_mk (st := topS 53) l53 c53 k53
  have b53 := F53.binds (ps := ["_law_view_here", "_law_parts_here"]) fun _ _ _ _ _ _ us hl => match us, hl with | [_, _], _ => rfl
  have F62 := fun_mk (st := (metS 45 6)) l62 c62 k62
  have b62 := F62.binds (ps := ["self", "state", "value"]) fun _ _ _ _ _ _ us hl => match us, hl with | [_, _, _], _ => rfl
  have F54 := fun_mk (st := topS 54) l54 c54 k54
  have b54 := F54.binds (ps := ["_law_thing", "_law_state", "_law_value"]) fun _ _ _ _ _ _ us hl => match us, hl with | [_, _, _], _ => rfl
  have F63 := fun_mk (st := (metS 45 7)) l63 c63 k63
  have b63 := F63.binds (ps := ["self", "state"]) fun _ _ _ _ _ _ us hl => match us, hl with | [_, _], _ => rfl
  have F60 := fun_mk (st := (metS 45 4)) l60 c60 k60
  have b60 := F60.binds (ps := ["self"]) fun _ _ _ _ _ _ us hl => match us, hl with | [_], _ => rfl
  have F64 := fun_mk (st := (metS 45 8)) l64 c64 k64
  have b64 := F64.binds (ps := ["self", "state"]) fun _ _ _ _ _ _ us hl => match us, hl with | [_, _], _ => rfl
  have F58 := fun_mk (st := (metS 45 2)) l58 c58 k58
  have b58 := F58.binds (ps := ["self"]) fun _ _ _ _ _ _ us hl => match us, hl with | [_], _ => rfl
  have F59 := fun_mk (st := (metS 45 3)) l59 c59 k59
  have b59 := F59.binds (ps := ["self"]) fun _ _ _ _ _ _ us hl => match us, hl with | [_], _ => rfl
  have F61 := fun_mk (st := (metS 45 5)) l61 c61 k61
  have b61 := F61.binds (ps := ["self", "state"]) fun _ _ _ _ _ _ us hl => match us, hl with | [_, _], _ => rfl
  have F55 := fun_mk (st := topS 55) l55 c55 k55
  have b55 := F55.binds (ps := ["_law_thing", "_law_view_here", "_law_parts_here"]) fun _ _ _ _ _ _ us hl => match us, hl with | [_, _, _], _ => rfl
  have F57 := fun_mk (st := (metS 45 1)) l57 c57 k57
  have b57 := F57.binds (ps := ["self", "shown"]) fun _ _ _ _ _ _ us hl => match us, hl with | [_, _], _ => rfl
  have F68 : FunS l.prog K "__init__" "TableView.__init__" (metS 46 0) f68 _ cda68 cc68 C46 := ⟨⟨_, _, _, _, _, _, _, _, rfl, l68⟩, c68, ⟨_, _, _, _, _, _, la68, y68_2, y68_3⟩, ⟨_, _, _, lb68⟩, ⟨_, ck68⟩, k68⟩
  have b68 := F68.binds (ps := ["self", "shown", "table"]) fun _ _ _ _ _ us hl => match us, hl with | [_, _, _], _ => rfl
  have F56 := fun_mk (st := topS 56) l56 c56 k56
  have b56 := F56.binds (ps := ["_law_script"]) fun _ _ _ _ _ _ us hl => match us, hl with | [_], _ => rfl
  have T : Txt l.prog K mg adr fds := {
F_is_whole := F12,
    b_is_whole := b12,
    g_is_whole := PySem.W.mg_of X G a12,
    F_is_below := F13,
    b_is_below := b13,
    g_is_below := PySem.W.mg_of X G a13,
    F_is_view := F16,
    b_is_view := b16,
    g_is_view := PySem.W.mg_of X G a16,
    F_need_view := F17,
    b_need_view := b17,
    g_need_view := PySem.W.mg_of X G a17,
    F_count_values := F18,
    b_count_values := b18,
    g_count_values := PySem.W.mg_of X G a18,
    F_need_state := F19,
    b_need_state := b19,
    g_need_state := PySem.W.mg_of X G a19,
    F_need_value := F20,
    b_need_value := b20,
    g_need_value := PySem.W.mg_of X G a20,
    F__is_row := F22,
    b__is_row := b22,
    g__is_row := PySem.W.mg_of X G a22,
    F_is_table := F21,
    b_is_table := b21,
    g_is_table := PySem.W.mg_of X G a21,
    F_need_table := F23,
    b_need_table := b23,
    g_need_table := PySem.W.mg_of X G a23,
    F__broken_forget := F27,
    b__broken_forget := b27,
    g__broken_forget := PySem.W.mg_of X G a27,
    F__broken_shown := F26,
    b__broken_shown := b26,
    g__broken_shown := PySem.W.mg_of X G a26,
    F__broken_stay := F25,
    b__broken_stay := b25,
    g__broken_stay := PySem.W.mg_of X G a25,
    F_broken := F24,
    b_broken := b24,
    g_broken := PySem.W.mg_of X G a24,
    F_need_sound := F28,
    b_need_sound := b28,
    g_need_sound := PySem.W.mg_of X G a28,
    F_written := F29,
    b_written := b29,
    g_written := PySem.W.mg_of X G a29,
    F__is_part := F32,
    b__is_part := b32,
    g__is_part := PySem.W.mg_of X G a32,
    F_is_parts := F31,
    b_is_parts := b31,
    g_is_parts := PySem.W.mg_of X G a31,
    F__results := F34,
    b__results := b34,
    g__results := PySem.W.mg_of X G a34,
    F_parts_of := F33,
    b_parts_of := b33,
    g_parts_of := PySem.W.mg_of X G a33,
    F__row_of := F36,
    b__row_of := b36,
    g__row_of := PySem.W.mg_of X G a36,
    F_table_of := F35,
    b_table_of := b35,
    g_table_of := PySem.W.mg_of X G a35,
    F__law_cell_at := F48,
    b__law_cell_at := b48,
    g__law_cell_at := PySem.W.mg_of X G a48,
    F__law_pen := F49,
    b__law_pen := b49,
    g__law_pen := PySem.W.mg_of X G a49,
    F__law_draw := F50,
    b__law_draw := b50,
    g__law_draw := PySem.W.mg_of X G a50,
    F__law_view := F51,
    b__law_view := b51,
    g__law_view := PySem.W.mg_of X G a51,
    F__law_parts := F52,
    b__law_parts := b52,
    g__law_parts := PySem.W.mg_of X G a52,
    F__law_table := F53,
    b__law_table := b53,
    g__law_table := PySem.W.mg_of X G a53,
    F_View_put := F62,
    b_View_put := b62,
    m_View_put := ⟨a62, fn62, k62⟩,
    F__law_put := F54,
    b__law_put := b54,
    g__law_put := PySem.W.mg_of X G a54,
    F_View_may := F63,
    b_View_may := b63,
    m_View_may := ⟨a63, fn63, k63⟩,
    F_View_parts := F60,
    b_View_parts := b60,
    p_View_parts := ⟨a60, g60, t60, ⟨_, r60⟩⟩,
    F_View_reachable := F64,
    b_View_reachable := b64,
    m_View_reachable := ⟨a64, fn64, k64⟩,
    F_View_shown := F58,
    b_View_shown := b58,
    p_View_shown := ⟨a58, g58, t58, ⟨_, r58⟩⟩,
    F_View_table := F59,
    b_View_table := b59,
    p_View_table := ⟨a59, g59, t59, ⟨_, r59⟩⟩,
    F_View_value_at := F61,
    b_View_value_at := b61,
    m_View_value_at := ⟨a61, fn61, k61⟩,
    F__law_answers := F55,
    b__law_answers := b55,
    g__law_answers := PySem.W.mg_of X G a55,
    F_View___init__ := F57,
    b_View___init__ := b57,
    F_TableView___init__ := F68,
    b_TableView___init__ := b68,
    F_law := F56,
    b_law := b56,
    g_law := PySem.W.mg_of X G a56,
    g_View := PySem.W.mg_of X G a45,
    nd_View := a45,
    cl_View := clsOf_mk (by decide) a45 a45 (insCls_mk wa45 wb45 wc45 wd45 we45 on ot wf45 wn45_1 wn45_2 wn45_3 wn45_4 wn45_5 wn45_6 wn45_7 wn45_8 wn45_9 wn45_10 wn45_11 q45_int q45_bool q45_str q45_list q45_tuple) wg45 w45_1 w45_2 w45_3 w45_4 w45_5 w45_6 w45_7 w45_8 w45_9 w45_1 w45_2 w45_3 w45_4 w45_5 w45_6 w45_7 w45_8 w45_9,
    mk_View := ⟨wm45, a57, fn57, wk45⟩,
    g_TableView := PySem.W.mg_of X G a46,
    nd_TableView := a46,
    cl_TableView := clsOf_mk (by decide) a46 a45 (insCls_mk wa46 wb46 wc46 wd46 we46 on ot wf46 wn46_1 wn46_2 wn46_3 wn46_4 wn46_5 wn46_6 wn46_7 wn46_8 wn46_9 wn46_10 wn46_11 q46_int q46_bool q46_str q46_list q46_tuple) wg46 w46_1 w46_2 w46_3 w46_4 w46_5 w46_6 w46_7 w46_8 w46_9 w45_1 w45_2 w45_3 w45_4 w45_5 w45_6 w45_7 w45_8 w45_9,
    mk_TableView := ⟨wm46, a68, fn68, wk46⟩,
    nv := a45,
    rd_View := ⟨wr45, wt45⟩,
    cv_View_LIMIT := ⟨_, ⟨wv45_LIMIT, ⟨_, rfl⟩⟩⟩,
    opq := opq,
    zsup := PySem.W.mg_none_of X G zsup,
    top := ytop,
    us_TableView___init__ := (super_of ck68 cv68 y68_m).trans a57,
    fn_View___init__ := fi57,
    ty_View___init__ := ty57,
    e_NoParts := PySem.W.mg_of X G a6,
    x_NoParts := x6,
    k_NoParts := k6,
    s_NoParts := s6,
    t_NoParts := t6,
    e_NoState := PySem.W.mg_of X G a7,
    x_NoState := x7,
    k_NoState := k7,
    s_NoState := s7,
    t_NoState := t7,
    e_NoTable := PySem.W.mg_of X G a4,
    x_NoTable := x4,
    k_NoTable := k4,
    s_NoTable := s4,
    t_NoTable := t4,
    e_NoValue := PySem.W.mg_of X G a8,
    x_NoValue := x8,
    k_NoValue := k8,
    s_NoValue := s8,
    t_NoValue := t8,
    e_NoView := PySem.W.mg_of X G a3,
    x_NoView := x3,
    k_NoView := k3,
    s_NoView := s3,
    t_NoView := t3,
    e_NotSound := PySem.W.mg_of X G a5,
    x_NotSound := x5,
    k_NotSound := k5,
    s_NotSound := s5,
    t_NotSound := t5,
    e_Refused := PySem.W.mg_of X G a9,
    x_Refused := x9,
    k_Refused := k9,
    s_Refused := s9,
    t_Refused := t9,
    d_Refused := d9,
    u_NoParts_Refused := u6_9,
    u_NoState_Refused := u7_9,
    u_NoTable_Refused := u4_9,
    u_NoValue_Refused := u8_9,
    u_NoView_Refused := u3_9,
    u_NotSound_Refused := u5_9,
    u_Refused_Refused := u9_9,
    z_all := PySem.W.mg_none_of X G z_all,
    z_bool := PySem.W.mg_none_of X G z_bool,
    z_enumerate := PySem.W.mg_none_of X G z_enumerate,
    z_int := PySem.W.mg_none_of X G z_int,
    z_isinstance := PySem.W.mg_none_of X G z_isinstance,
    z_len := PySem.W.mg_none_of X G z_len,
    z_list := PySem.W.mg_none_of X G z_list,
    z_max := PySem.W.mg_none_of X G z_max,
    z_range := PySem.W.mg_none_of X G z_range,
    z_set := PySem.W.mg_none_of X G z_set,
    z_sorted := PySem.W.mg_none_of X G z_sorted,
    z_tuple := PySem.W.mg_none_of X G z_tuple,
    c_MOST_STATES := ⟨_, PySem.W.mg_of X G v_MOST_STATES⟩ }
  exact ⟨(PySem.W.fnOf "law" "law" (defArgs (topS 56)) (defBody (topS 56)) (defScope (topS 56)) .none kV56 dc56 pm56 an56 cd56 ct56), fun s v => .of_eq rfl, fun base _ _ => (ok_law T).imp (top_of (m := m_law_k44_v2) noL hm)⟩
end Pf
open PySem PySem.W PyProof.Rows
set_option maxHeartbeats 0 in
theorem PySem.Challenge.cw_writebacks_k44_view_objects_answer_holds : PySem.Challenge.rw_writebacks_k44_view_objects_answer.Holds := by
  w_on; o_law; k_head; (case hw => w_witness2)
  k_fill
  refine MW.walk_G (l := PySem.Challenge.rw_writebacks_k44_view_objects_answer) (k := 13) (x := "_law_script") rfl rfl ⟨rfl, by decide, by decide⟩ (fun w h Y => PySem.W.kIn_of Y) (fun w => ?noLL) ?F
  case noLL => rfl
  case F =>
    intro w mg fa h KX G hmg
    refine' Pf.all_mk KX G hmg ?noL ?hm ?a45 ?a46 ?a12 ?l12 ?c12 ?k12 ?a13 ?l13 ?c13 ?k13 ?a16 ?l16 ?c16 ?k16 ?a17 ?l17 ?c17 ?k17 ?a18 ?l18 ?c18 ?k18 ?a19 ?l19 ?c19 ?k19 ?a20 ?l20 ?c20 ?k20 ?a22 ?l22 ?c22 ?k22 ?a21 ?l21 ?c21 ?k21 ?a23 ?l23 ?c23 ?k23 ?a27 ?l27 ?c27 ?k27 ?a26 ?l26 ?c26 ?k26 ?a25 ?l25 ?c25 ?k25 ?a24 ?l24 ?c24 ?k24 ?a28 ?l28 ?c28 ?k28 ?a29 ?l29 ?c29 ?k29 ?a32 ?l32 ?c32 ?k32 ?a31 ?l31 ?c31 ?k31 ?a34 ?l34 ?c34 ?k34 ?a33 ?l33 ?c33 ?k33 ?a36 ?l36 ?c36 ?k36 ?a35 ?l35 ?c35 ?k35 ?a48 ?l48 ?c48 ?k48 ?a49 ?l49 ?c49 ?k49 ?a50 ?l50 ?c50 ?k50 ?a51 ?l51 ?c51 ?k51 ?a52 ?l52 ?c52 ?k52 ?a53 ?l53 ?c53 ?k53 ?a62 ?l62 ?c62 ?k62 ?fn62 ?a54 ?l54 ?c54 ?k54 ?a63 ?l63 ?c63 ?k63 ?fn63 ?a60 ?g60 ?t60 ?r60 ?l60 ?c60 ?k60 ?a64 ?l64 ?c64 ?k64 ?fn64 ?a58 ?g58 ?t58 ?r58 ?l58 ?c58 ?k58 ?a59 ?g59 ?t59 ?r59 ?l59 ?c59 ?k59 ?a61 ?l61 ?c61 ?k61 ?fn61 ?a55 ?l55 ?c55 ?k55 ?a57 ?l57 ?c57 ?k57 ?fn57 ?a68 ?l68 ?c68 ?la68 ?y68_2 ?y68_3 ?lb68 ?ck68 ?cv68 ?y68_m ?k68 ?fn68 ?a56 ?l56 ?c56 ?k56 ?a6 ?x6 ?k6 ?s6 ?t6 ?a7 ?x7 ?k7 ?s7 ?t7 ?a4 ?x4 ?k4 ?s4 ?t4 ?a8 ?x8 ?k8 ?s8 ?t8 ?a3 ?x3 ?k3 ?s3 ?t3 ?a5 ?x5 ?k5 ?s5 ?t5 ?a9 ?x9 ?k9 ?s9 ?t9 ?d9 ?u6_9 ?u7_9 ?u4_9 ?u8_9 ?u3_9 ?u5_9 ?u9_9 ?fi57 ?ty57 ?opq ?zsup ?ytop ?on ?ot ?w45_1 ?w45_2 ?w45_3 ?w45_4 ?w45_5 ?w45_6 ?w45_7 ?w45_8 ?w45_9 ?w46_1 ?w46_2 ?w46_3 ?w46_4 ?w46_5 ?w46_6 ?w46_7 ?w46_8 ?w46_9 ?wa45 ?wb45 ?wc45 ?wd45 ?we45 ?wf45 ?wg45 ?wn45_1 ?wn45_2 ?wn45_3 ?wn45_4 ?wn45_5 ?wn45_6 ?wn45_7 ?wn45_8 ?wn45_9 ?wn45_10 ?wn45_11 ?q45_int ?q45_bool ?q45_str ?q45_list ?q45_tuple ?wm45 ?wk45 ?wa46 ?wb46 ?wc46 ?wd46 ?we46 ?wf46 ?wg46 ?wn46_1 ?wn46_2 ?wn46_3 ?wn46_4 ?wn46_5 ?wn46_6 ?wn46_7 ?wn46_8 ?wn46_9 ?wn46_10 ?wn46_11 ?q46_int ?q46_bool ?q46_str ?q46_list ?q46_tuple ?wm46 ?wk46 ?wr45 ?wt45 ?wv45_LIMIT ?z_all ?z_bool ?z_enumerate ?z_int ?z_isinstance ?z_len ?z_list ?z_max ?z_range ?z_set ?z_sorted ?z_tuple ?v_MOST_STATES
    (case noL => rfl)
    (case hm => exact Pf.law_holds)
    (case a45 => k_is)
    (case a46 => k_is)
    (case a12 => k_is)
    (case l12 => k_is)
    (case c12 => k_is)
    (case k12 => k_is)
    (case a13 => k_is)
    (case l13 => k_is)
    (case c13 => k_is)
    (case k13 => k_is)
    (case a16 => k_is)
    (case l16 => k_is)
    (case c16 => k_is)
    (case k16 => k_is)
    (case a17 => k_is)
    (case l17 => k_is)
    (case c17 => k_is)
    (case k17 => k_is)
    (case a18 => k_is)
    (case l18 => k_is)
    (case c18 => k_is)
    (case k18 => k_is)
    (case a19 => k_is)
    (case l19 => k_is)
    (case c19 => k_is)
    (case k19 => k_is)
    (case a20 => k_is)
    (case l20 => k_is)
    (case c20 => k_is)
    (case k20 => k_is)
    (case a22 => k_is)
    (case l22 => k_is)
    (case c22 => k_is)
    (case k22 => k_is)
    (case a21 => k_is)
    (case l21 => k_is)
    (case c21 => k_is)
    (case k21 => k_is)
    (case a23 => k_is)
    (case l23 => k_is)
    (case c23 => k_is)
    (case k23 => k_is)
    (case a27 => k_is)
    (case l27 => k_is)
    (case c27 => k_is)
    (case k27 => k_is)
    (case a26 => k_is)
    (case l26 => k_is)
    (case c26 => k_is)
    (case k26 => k_is)
    (case a25 => k_is)
    (case l25 => k_is)
    (case c25 => k_is)
    (case k25 => k_is)
    (case a24 => k_is)
    (case l24 => k_is)
    (case c24 => k_is)
    (case k24 => k_is)
    (case a28 => k_is)
    (case l28 => k_is)
    (case c28 => k_is)
    (case k28 => k_is)
    (case a29 => k_is)
    (case l29 => k_is)
    (case c29 => k_is)
    (case k29 => k_is)
    (case a32 => k_is)
    (case l32 => k_is)
    (case c32 => k_is)
    (case k32 => k_is)
    (case a31 => k_is)
    (case l31 => k_is)
    (case c31 => k_is)
    (case k31 => k_is)
    (case a34 => k_is)
    (case l34 => k_is)
    (case c34 => k_is)
    (case k34 => k_is)
    (case a33 => k_is)
    (case l33 => k_is)
    (case c33 => k_is)
    (case k33 => k_is)
    (case a36 => k_is)
    (case l36 => k_is)
    (case c36 => k_is)
    (case k36 => k_is)
    (case a35 => k_is)
    (case l35 => k_is)
    (case c35 => k_is)
    (case k35 => k_is)
    (case a48 => k_is)
    (case l48 => k_is)
    (case c48 => k_is)
    (case k48 => k_is)
    (case a49 => k_is)
    (case l49 => k_is)
    (case c49 => k_is)
    (case k49 => k_is)
    (case a50 => k_is)
    (case l50 => k_is)
    (case c50 => k_is)
    (case k50 => k_is)
    (case a51 => k_is)
    (case l51 => k_is)
    (case c51 => k_is)
    (case k51 => k_is)
    (case a52 => k_is)
    (case l52 => k_is)
    (case c52 => k_is)
    (case k52 => k_is)
    (case a53 => k_is)
    (case l53 => k_is)
    (case c53 => k_is)
    (case k53 => k_is)
    (case a62 => k_is)
    (case l62 => k_is)
    (case c62 => k_is)
    (case k62 => k_is)
    (case fn62 => k_is)
    (case a54 => k_is)
    (case l54 => k_is)
    (case c54 => k_is)
    (case k54 => k_is)
    (case a63 => k_is)
    (case l63 => k_is)
    (case c63 => k_is)
    (case k63 => k_is)
    (case fn63 => k_is)
    (case a60 => k_is)
    (case g60 => k_is)
    (case t60 => k_is)
    (case r60 => k_is)
    (case l60 => k_is)
    (case c60 => k_is)
    (case k60 => k_is)
    (case a64 => k_is)
    (case l64 => k_is)
    (case c64 => k_is)
    (case k64 => k_is)
    (case fn64 => k_is)
    (case a58 => k_is)
    (case g58 => k_is)
    (case t58 => k_is)
    (case r58 => k_is)
    (case l58 => k_is)
    (case c58 => k_is)
    (case k58 => k_is)
    (case a59 => k_is)
    (case g59 => k_is)
    (case t59 => k_is)
    (case r59 => k_is)
    (case l59 => k_is)
    (case c59 => k_is)
    (case k59 => k_is)
    (case a61 => k_is)
    (case l61 => k_is)
    (case c61 => k_is)
    (case k61 => k_is)
    (case fn61 => k_is)
    (case a55 => k_is)
    (case l55 => k_is)
    (case c55 => k_is)
    (case k55 => k_is)
    (case a57 => k_is)
    (case l57 => k_is)
    (case c57 => k_is)
    (case k57 => k_is)
    (case fn57 => k_is)
    (case a68 => k_is)
    (case l68 => k_is)
    (case c68 => k_is)
    (case la68 => k_is)
    (case y68_2 => (first | rfl | decide +kernel))
    (case y68_3 => (first | rfl | decide +kernel))
    (case lb68 => k_is)
    (case ck68 => k_is)
    (case cv68 => k_is)
    (case y68_m => (first | rfl | decide +kernel))
    (case k68 => k_is)
    (case fn68 => k_is)
    (case a56 => k_is)
    (case l56 => k_is)
    (case c56 => k_is)
    (case k56 => k_is)
    (case a6 => k_is)
    (case x6 => k_exc)
    (case k6 => k_is)
    (case s6 => k_is)
    (case t6 => k_is)
    (case a7 => k_is)
    (case x7 => k_exc)
    (case k7 => k_is)
    (case s7 => k_is)
    (case t7 => k_is)
    (case a4 => k_is)
    (case x4 => k_exc)
    (case k4 => k_is)
    (case s4 => k_is)
    (case t4 => k_is)
    (case a8 => k_is)
    (case x8 => k_exc)
    (case k8 => k_is)
    (case s8 => k_is)
    (case t8 => k_is)
    (case a3 => k_is)
    (case x3 => k_exc)
    (case k3 => k_is)
    (case s3 => k_is)
    (case t3 => k_is)
    (case a5 => k_is)
    (case x5 => k_exc)
    (case k5 => k_is)
    (case s5 => k_is)
    (case t5 => k_is)
    (case a9 => k_is)
    (case x9 => k_exc)
    (case k9 => k_is)
    (case s9 => k_is)
    (case t9 => k_is)
    (case d9 => k_is)
    (case u6_9 => k_is)
    (case u7_9 => k_is)
    (case u4_9 => k_is)
    (case u8_9 => k_is)
    (case u3_9 => k_is)
    (case u5_9 => k_is)
    (case u9_9 => k_is)
    (case fi57 => k_is)
    (case ty57 => k_is)
    (case opq => k_is)
    (case zsup => k_is)
    (case ytop => (first | rfl | decide +kernel))
    (case on => k_is)
    (case ot => k_is)
    (case w45_1 => k_is)
    (case w45_2 => k_is)
    (case w45_3 => k_is)
    (case w45_4 => k_is)
    (case w45_5 => k_is)
    (case w45_6 => k_is)
    (case w45_7 => k_is)
    (case w45_8 => k_is)
    (case w45_9 => k_is)
    (case w46_1 => k_is)
    (case w46_2 => k_is)
    (case w46_3 => k_is)
    (case w46_4 => k_is)
    (case w46_5 => k_is)
    (case w46_6 => k_is)
    (case w46_7 => k_is)
    (case w46_8 => k_is)
    (case w46_9 => k_is)
    (case wa45 => k_is)
    (case wb45 => k_is)
    (case wc45 => k_is)
    (case wd45 => k_is)
    (case we45 => k_is)
    (case wf45 => k_is)
    (case wg45 => k_is)
    (case wn45_1 => k_is)
    (case wn45_2 => k_is)
    (case wn45_3 => k_is)
    (case wn45_4 => k_is)
    (case wn45_5 => k_is)
    (case wn45_6 => k_is)
    (case wn45_7 => k_is)
    (case wn45_8 => k_is)
    (case wn45_9 => k_is)
    (case wn45_10 => k_is)
    (case wn45_11 => k_is)
    (case q45_int => kit_is)
    (case q45_bool => kit_is)
    (case q45_str => kit_is)
    (case q45_list => kit_is)
    (case q45_tuple => kit_is)
    (case wm45 => k_is)
    (case wk45 => k_is)
    (case wa46 => k_is)
    (case wb46 => k_is)
    (case wc46 => k_is)
    (case wd46 => k_is)
    (case we46 => k_is)
    (case wf46 => k_is)
    (case wg46 => k_is)
    (case wn46_1 => k_is)
    (case wn46_2 => k_is)
    (case wn46_3 => k_is)
    (case wn46_4 => k_is)
    (case wn46_5 => k_is)
    (case wn46_6 => k_is)
    (case wn46_7 => k_is)
    (case wn46_8 => k_is)
    (case wn46_9 => k_is)
    (case wn46_10 => k_is)
    (case wn46_11 => k_is)
    (case q46_int => kit_is)
    (case q46_bool => kit_is)
    (case q46_str => kit_is)
    (case q46_list => kit_is)
    (case q46_tuple => kit_is)
    (case wm46 => k_is)
    (case wk46 => k_is)
    (case wr45 => k_is)
    (case wt45 => k_is)
    (case wv45_LIMIT => k_is)
    (case z_all => k_is)
    (case z_bool => k_is)
    (case z_enumerate => k_is)
    (case z_int => k_is)
    (case z_isinstance => k_is)
    (case z_len => k_is)
    (case z_list => k_is)
    (case z_max => k_is)
    (case z_range => k_is)
    (case z_set => k_is)
    (case z_sorted => k_is)
    (case z_tuple => k_is)
    (case v_MOST_STATES => k_is)
