import PyProof.Rows.All
import Wide.All
import OpenK.AllK
import Wide.FinOn
import HandS.ForMost
import HandS.Lambda
import HandS.Defaults
import HandS.HeadHook1
import HandS.HeadHook2
import HandS.HeadHook3
import HandS.HeadHook4
import KE.KStateDown
import HandS.Head0
import HandS.Head1
import HandS.Head2
import HandS.ExcInit
import HandS.MakeKwOnly
import HandS.IsInst
import HandS.ExcValue
import KE.KExcIs
import HandS.CallLocal
import PyProof.ReprRoads
import HandS.TryOnly
import HandS.Iter
import HandS.EndTab
import HandS.NestedK
import HandS.EndBits
import PySem.Challenge.RW_primetalks_k00_errors_made
set_option Elab.async false
set_option linter.all false
set_option maxRecDepth 100000
set_option maxHeartbeats 0
namespace K0
open PySem PySem.Spec PyProof.Rows L2
def top (i : Nat) : Stmt := PySem.Challenge.pw_primetalks_k00_errors_made.main.body.getD i (.Pass ⟨0, 0, 0, 0⟩)
/-- the first statement of the class that stands at i -/
def inner (i : Nat) : Stmt := match top i with
  | .ClassDef (body := st :: _) .. => st
  | _ => .Pass ⟨0, 0, 0, 0⟩
/-- an error's class: its name, where it stands, its parameters -/
structure Row where
  nm : Str
  at_ : Nat
  ps : List Str
def rowsA : List Row := [⟨"BadAnswers", 2, ["index"]⟩, ⟨"BadBody", 3, ["thing"]⟩, ⟨"BadBook", 4, ["thing"]⟩, ⟨"BadChoices", 5, ["index"]⟩, ⟨"BadChosen", 6, ["index"]⟩, ⟨"BadDeed", 7, ["thing"]⟩, ⟨"BadForm", 8, ["thing"]⟩, ⟨"BadLast", 9, ["index"]⟩, ⟨"BadLetter", 10, ["thing"]⟩, ⟨"BadLong", 11, ["thing"]⟩, ⟨"BadMany", 12, ["thing"]⟩, ⟨"BadMost", 13, ["thing"]⟩, ⟨"BadName", 14, ["thing"]⟩, ⟨"BadNames", 15, ["thing"]⟩, ⟨"BadNumber", 16, ["thing"]⟩, ⟨"BadOther", 17, ["thing"]⟩, ⟨"BadPlan", 18, ["thing"]⟩, ⟨"BadProcs", 19, ["index"]⟩]
def rowsB : List Row := [⟨"BadProgram", 20, ["thing"]⟩, ⟨"BadQuestion", 21, ["thing"]⟩, ⟨"BadRow", 22, ["index"]⟩, ⟨"BadRows", 23, ["index"]⟩, ⟨"BadRule", 24, ["thing"]⟩, ⟨"BadSecond", 25, ["thing"]⟩, ⟨"BadSession", 26, ["thing"]⟩, ⟨"BadString", 27, ["thing"]⟩, ⟨"BadTable", 28, ["thing"]⟩, ⟨"BadTalks", 29, ["index"]⟩, ⟨"BadText", 30, ["line", "sign"]⟩, ⟨"BadTold", 31, ["index"]⟩, ⟨"BadWord", 32, ["index"]⟩, ⟨"HasRule", 33, ["rule"]⟩, ⟨"InRow", 34, ["name"]⟩, ⟨"InUse", 35, ["question"]⟩, ⟨"IsWatched", 36, ["question"]⟩, ⟨"LastRule", 37, ["name"]⟩]
def rowsC : List Row := [⟨"NoCount", 38, ["thing"]⟩, ⟨"NoEnd", 39, ["name"]⟩, ⟨"NoProc", 40, ["thing"]⟩, ⟨"NoRoot", 41, []⟩, ⟨"NoRule", 42, ["letter", "row"]⟩, ⟨"NoTalk", 43, ["thing"]⟩, ⟨"NotAlike", 44, ["other"]⟩, ⟨"NotChecked", 45, ["fault"]⟩, ⟨"NotClear", 46, []⟩, ⟨"NotFinished", 47, ["index"]⟩, ⟨"NotPrime", 48, ["thing"]⟩, ⟨"NotShortest", 49, ["word"]⟩, ⟨"NotSimple", 50, ["name"]⟩, ⟨"NotWatched", 51, ["question"]⟩, ⟨"StrangeRow", 52, ["name", "index"]⟩, ⟨"WouldChange", 53, ["question", "why"]⟩]
def rows : List Row := rowsA ++ rowsB ++ rowsC
def Row.d (r : Row) : He.DefD := ⟨(r.nm, some "__init__"), "__init__", r.nm ++ ".__init__", defArgs (inner r.at_), defBody (inner r.at_), defScope (inner r.at_), [], []⟩
def dG (x : Str) (i : Nat) : He.DefD := ⟨(x, none), x, x, defArgs (top i), defBody (top i), defScope (top i), [], []⟩
def defsG : List He.DefD := [dG "_law_start" 55, dG "_law_draw" 56, dG "_law_mixed" 57, dG "_law_made_a" 58, dG "_law_made_b" 59, dG "_law_made_c" 60,
  dG "_law_kinds_a" 61, dG "_law_kinds_b" 62, dG "_law_kinds_c" 63, dG "_law_kinds" 64, dG "_law_is_own" 65, dG "_law_are_these" 66, dG "law" 67]
def fn : List He.DefD := defsG ++ (rows.filter fun r => !r.ps.isEmpty).map Row.d
def fa : List He.Fa := [.glo "TalkError", .free "isinstance", .free "list", .free "int", .free "len", .free "range", .free "enumerate", .free "repr", .free "ValueError", .free "LookupError"]
  ++ rows.map (fun r => .glo r.nm) ++ defsG.map fun d => .glo d.name
def tf : List He.Defn := [("_law_made_a", none), ("_law_made_b", none), ("_law_made_c", none)]
/-- the class object is one of an own error, beneath T -/
def oexB (K : PySem.W.Frag) (T C : Addr) : Bool := match K.lookup C with
  | some ⟨.type ty, _, .cls cd, sl⟩ => decide (ty = "type") && (decide (cd.mro = (if C = T then [.ref C] else [.ref C, .ref T]) ++ HandSPX.veTail) && (cd.hasDict && !cd.hasDel &&
      (match sl.toList with
        | [_, _, _, _, some (.builtin n), _] => decide (n = "ValueError.__new__")
        | _ => false)))
  | _ => false
def errB (K : PySem.W.Frag) (T C : Addr) : Bool := oexB K T C && (PySem.W.keepIn K (.ref C) &&
  (He.eqO (PySem.W.findIn K (.ref C) "__setattr__") (some (some (.builtin "object.__setattr__"))) &&
  (He.eqO (PySem.W.findIn K (.ref C) "__getattribute__") (some (some (.builtin "BaseException.__getattribute__"))) &&
  (He.eqO (PySem.W.findIn K (.ref C) "__getattr__") (some none) &&
   He.eqO (PySem.W.findIn K (.ref C) "__class__") (some (some (.builtin "object.__class__")))))))
def rowB (K : PySem.W.Frag) (T : Addr) (r : Row) : Bool := errB K T (He.ga K r.nm) && ((r.ps.all fun f => He.eqO (PySem.W.findIn K (.ref (He.ga K r.nm)) f) (some none)) &&
  (if r.ps.isEmpty then PySem.W.excIn K (He.ga K r.nm) He.veBase "ValueError.__new__"
   else He.eqO (PySem.W.findIn K (.ref (He.ga K r.nm)) "__init__") (some (some (.ref (He.ma K (He.ga K r.nm) "__init__")))) &&
     decide (PySem.W.typeIn K (.ref (He.ma K (He.ga K r.nm) "__init__")) = some (.type "function"))))
/-- addresses each once -/
def apart : List Addr → Bool
  | [] => true
  | a :: r => r.all (fun b => !Nat.beq a b) && apart r
def ex (K : PySem.W.Frag) : Bool := errB K (He.ga K "TalkError") (He.ga K "TalkError") && (PySem.W.excIn K (He.ga K "TalkError") He.veBase "ValueError.__new__" &&
  ((rows.all fun r => rowB K (He.ga K "TalkError") r) && apart (He.ga K "TalkError" :: rows.map fun r => He.ga K r.nm)))
end K0
set_option maxHeartbeats 0
namespace K0h
open K0 PySem PySem.W PySem.Calls PyProof.Rows
abbrev R : OpenRow := OpenLaw.row PySem.Challenge.rw_primetalks_k00_errors_made
abbrev qv : Program := view R.prog [67]
def ln0 : List PySem.Str := ["TalkError", "BadAnswers", "BadBody", "BadBook", "BadChoices", "BadChosen", "BadDeed", "BadForm", "BadLast", "BadLetter", "BadLong", "BadMany", "BadMost", "BadName", "BadNames", "BadNumber", "BadOther", "BadPlan", "BadProcs", "BadProgram"]
def ln1 : List PySem.Str := ["BadQuestion", "BadRow", "BadRows", "BadRule", "BadSecond", "BadSession", "BadString", "BadTable", "BadTalks", "BadText", "BadTold", "BadWord", "HasRule", "InRow", "InUse", "IsWatched", "LastRule", "NoCount", "NoEnd", "NoProc"]
def ln2 : List PySem.Str := ["NoRoot", "NoRule", "NoTalk", "NotAlike", "NotChecked", "NotClear", "NotFinished", "NotPrime", "NotShortest", "NotSimple", "NotWatched", "StrangeRow", "WouldChange", "_law_start", "_law_draw", "_law_mixed", "_law_made_a", "_law_made_b", "_law_made_c", "_law_kinds_a"]
def ln3 : List PySem.Str := ["_law_kinds_b", "_law_kinds_c", "_law_kinds", "_law_is_own", "_law_are_these"]
def names : List PySem.Str := ln0 ++ ln1 ++ ln2 ++ ln3
def fnA : List He.DefD := defsG ++ (rowsA.filter fun r => !r.ps.isEmpty).map Row.d
def fnB : List He.DefD := ((rowsB ++ rowsC).filter fun r => !r.ps.isEmpty).map Row.d
def yes (_ : PySem.W.Frag) : Bool := true
/-- the three tables are apart -/
def ex2 (K : PySem.W.Frag) : Bool := apart (tf.map fun p => (He.cT K p).2)
abbrev h1 : PySem.W.Hook := He.hookX 4 fa [] [] [] ex
abbrev h2 : PySem.W.Hook := He.hookX 4 [] fnA [] tf ex2
abbrev h3 : PySem.W.Hook := He.hookX 4 [] fnB [] [] yes
def ob1 (s : PySem.W.SharedT) : He.AlX := He.obsX 4 fa [] [] [] ex (HandSHeadRun.getT s)
def ob2 (s : PySem.W.SharedT) : He.AlX := He.obsX 4 [] fnA [] tf ex2 (HandSHeadRun.getT s)
def ob3 (s : PySem.W.SharedT) : He.AlX := He.obsX 4 [] fnB [] [] yes (HandSHeadRun.getT s)
/-- what the head tells, in three parts of one written part -/
structure Says3 (w : World) (h : Heap) (K : PySem.W.Frag) : Prop where
  a : He.SaysX fa [] [] [] ex w h K
  b : He.SaysX [] fnA [] tf ex2 w h K
  c : He.SaysX [] fnB [] [] yes w h K
abbrev hk3 : PySem.W.Hook where
  α := He.AlX × He.AlX × He.AlX
  obs := fun s => (h1.obs s, h2.obs s, h3.obs s)
  val := fun w => (h1.val w, h2.val w, h3.val w)
  says := fun w h => ∃ K : PySem.W.Frag, K.In h ∧ Says3 w h K
  of := fun w s e => ⟨_, He.frT_in, He.saysX_of (congrArg (fun z => z.1) e), He.saysX_of (congrArg (fun z => z.2.1) e), He.saysX_of (congrArg (fun z => z.2.2) e)⟩
  keeps := fun _ _ _ ⟨K, hK, c⟩ k => ⟨K, PySem.W.Frag.In.keeps hK k, ⟨c.a.t, c.a.more, c.a.hd, c.a.out, fun p hp => k _ _ (c.a.empty p hp)⟩,
    ⟨c.b.t, c.b.more, c.b.hd, c.b.out, fun p hp => k _ _ (c.b.empty p hp)⟩, ⟨c.c.t, c.c.more, c.c.hd, c.c.out, fun p hp => k _ _ (c.c.empty p hp)⟩⟩
def ob3x (s : PySem.W.SharedT) : He.AlX × He.AlX × He.AlX := (ob1 s, ob2 s, ob3 s)
theorem ob3x_eq (s : PySem.W.SharedT) : ob3x s = hk3.obs s.abs := by
  have e1 : ob1 s = h1.obs s.abs := He.obsX_eq (HandSHeadRun.getT_eq s)
  have e2 : ob2 s = h2.obs s.abs := He.obsX_eq (HandSHeadRun.getT_eq s)
  have e3 : ob3 s = h3.obs s.abs := He.obsX_eq (HandSHeadRun.getT_eq s)
  exact Prod.ext e1 (Prod.ext e2 e3)
theorem three {σ α β A B C : Type} {x : Option σ} {f : σ → α} {g : σ → β} {a : σ → A} {b : σ → B} {c : σ → C} {u : α} {v : β} {p : A} {q : B} {r : C}
    (e1 : x.map (fun s => (f s, g s, a s)) = some (u, v, p)) (e2 : x.map (fun s => (f s, g s, b s)) = some (u, v, q)) (e3 : x.map (fun s => (f s, g s, c s)) = some (u, v, r)) :
    x.map (fun s => (f s, g s, (a s, b s, c s))) = some (u, v, (p, q, r)) := by
  cases x with
  | none => cases e1
  | some s =>
    simp only [Option.map_some, Option.some.injEq, Prod.mk.injEq] at e1 e2 e3 ⊢
    exact ⟨e1.1, e1.2.1, e1.2.2, e2.2.2, e3.2.2⟩
end K0h
set_option maxHeartbeats 0
namespace K0h
open K0 PySem PySem.W PySem.Calls PyProof.Rows
theorem run1 (w : World) : HandSHeadRun.RunEq R qv h1 ob1 20000 names w := by
  intro os
  kernel_rfl
theorem run2 (w : World) : HandSHeadRun.RunEq R qv h2 ob2 20000 names w := by
  intro os
  kernel_rfl
theorem run3 (w : World) : HandSHeadRun.RunEq R qv h3 ob3 20000 names w := by
  intro os
  kernel_rfl
theorem run (w : World) : HandSHeadRun.RunEq R qv hk3 ob3x 20000 names w := fun os => three (run1 w os) (run2 w os) (run3 w os)
end K0h
set_option maxHeartbeats 0
namespace PySem
namespace HandSPX
open Builtin Builtin.ObjectAttr
section
variable {M : Model} {A : Around} {E : Value → Shared → Prop} {h : Heap}
  {g : Array GenState} {d : Drawn} {t : Nat} {os : OsState}
variable {nm q : Str} {C N : Addr} {bs bm bmB : List Value} {hdct : Bool}
  {sn : List Str} {sub : List Value} {ab : Bool} {col : Option Bool} {dd : Option Addr}
variable {k0 k1 k2 k3 k5 : Option Value} {B newId initId : String} {kw : List (Str × Value)}
/-- the look at the arguments of the maker, keywords beside -/
theorem kwLookNew (F : ExcBaseFacts B newId initId bmB)
    (hT : ∀ X : String, bm.contains (.type X) = bmB.contains (.type X)) {rest : List Value} {Q : Unit → Shared → Prop}
    (hC : h.get? C = some (excClassObj nm q C N bs bm hdct sn sub ab col dd k0 k1 k2 k3 k5 newId))
    (hq : Q () ⟨h, g, d, t, os⟩) :
    wpAny M A (checkBuiltinCall newId ⟨.ref C :: rest, kw⟩) Q E ⟨h, g, d, t, os⟩ := by
  have inB : (Value.ref C :: bm).contains (.type B) = true := by
    rw [List.contains_cons, hT, F.hasB]; simp
  have nostar := F.noStar
  simp only [checkBuiltinCall, F.newKind, F.newSplit, F.newRow]
  repeat (first
    | refine wpAny_loadPart_at hC ?_
    | (refine wpAny_isSubtype_exc hC ?_; rw [inB])
    | refine wpAny_staticBase_exc hC ?_
    | refine wpAny_madeBy_exc hC ?_
    | simp only [bne_self_eq_false, Bool.false_eq_true, if_false]
    | wp_step)
  exact hq
/-- type.__call__ itself, keywords beside -/
theorem kwLookCall {rest : List Value} {Q : Unit → Shared → Prop}
    (hC : h.get? C = some (excClassObj nm q C N bs bm hdct sn sub ab col dd k0 k1 k2 k3 k5 newId))
    (hq : Q () ⟨h, g, d, t, os⟩) :
    wpAny M A (checkBuiltinCall "type.__call__" ⟨.ref C :: rest, kw⟩) Q E ⟨h, g, d, t, os⟩ := by
  have f3 := tc_sub
  have hT : (⟨h, g, d, t, os⟩ : Shared).TypeIs (.ref C) "type" := ⟨_, hC, rfl⟩
  simp only [checkBuiltinCall, tc_kind, tc_split]
  repeat (any_goals (first
    | assumption
    | with_reducible refine wpAny_loadPart_at hC ?_
    | with_reducible refine wpAny_onRaise ?_
    | with_reducible refine wpAny_map ?_
    | wp_step))
end
section
variable {prog : Program} {w : World} {A : Around} {E : Value → Shared → Prop} {R : Result → Shared → Prop}
  {h : Heap} {g : Array GenState} {d : Drawn} {t : Nat} {os : OsState}
variable {nm q : Str} {C N : Addr} {bs bm bmB : List Value} {hdct : Bool}
  {sn : List Str} {sub : List Value} {ab : Bool} {col : Option Bool} {dd : Option Addr}
variable {k0 k1 k2 k3 k5 : Option Value} {B newId initId : String} {kw : List (Str × Value)}
/-- the maker, keywords beside: its args are laid as a tuple, then the exception -/
theorem kwNew (F : ExcBaseFacts B newId initId bmB)
    (hT : ∀ X : String, bm.contains (.type X) = bmB.contains (.type X)) {rest : List Value}
    (hC : h.get? C = some (excClassObj nm q C N bs bm hdct sn sub ab col dd k0 k1 k2 k3 k5 newId))
    (hq : R (.ok (.ret (.ref (h.objs.size + 1))))
      ⟨(h.push { cls := .type "tuple", data := .seq rest.toArray }).push (excO C h.objs.size), g, d, t, os⟩)
    (hl : rest.length ≤ sizeLine) :
    codeAny (model prog w) A (.builtin newId ⟨.ref C :: rest, kw⟩) R ⟨h, g, d, t, os⟩ := by
  have ends := F.ends
  have inB : (Value.ref C :: bm).contains (.type B) = true := by
    rw [List.contains_cons, hT, F.hasB]; simp
  have noA : (Value.ref C :: bm).contains (.type "AttributeError") = false := by
    rw [List.contains_cons, hT, F.noAttr]; rfl
  have noN : (Value.ref C :: bm).contains (.type "NameError") = false := by
    rw [List.contains_cons, hT, F.noName]; rfl
  refine codeAny_builtinAt F.entry ?_
  unfold Builtin.«BaseException.__new__»
  refine wpAt_bind ?_
  show wpAt _ _ _ (stack >>= _) _ _ _
  refine wpAt_bind (wpAt_stack fun p below => wpAt_of_wpAny ?_)
  wp_walk
  refine wpAt_of_wpAny ?_
  rw [F.owner]
  repeat (first
    | with_reducible refine wpAny_madeHere_exc F.canon hC ?_
    | with_reducible refine wpAny_loadPart_at hC ?_
    | (with_reducible refine wpAny_isSubtype_exc hC ?_; first | rw [inB] | rw [noA] | rw [noN])
    | wp_step)
  show R _ _
  rw [Heap.size_push]
  exact hq
/-- the class is called: the exception is made, then the own __init__ is called with keywords and all -/
theorem kwTypeCall (F : ExcBaseFacts B newId initId bmB)
    (hT : ∀ X : String, bm.contains (.type X) = bmB.contains (.type X)) {rest : List Value} {fI : Addr} {Q : Fin → Shared → Prop}
    (hC : h.get? C = some (excClassObj nm q C N bs bm hdct sn sub ab col dd k0 k1 k2 k3 k5 newId))
    (hi : W.Looks (model prog w) h (typeLookup (.ref C) "__init__") (some (.ref fI)))
    (hb : ∀ self, W.Looks (model prog w) h (bindSpecial (.ref fI) self) (.ref fI, [self])) (hl : rest.length ≤ sizeLine)
    (hq : codeAny (model prog w) A (.call (.ref fI) ⟨.ref (h.objs.size + 1) :: rest, kw⟩)
      (fun r s' => match r with
        | .ok (.ret v) => v = .none ∧ Q (.done (.ret (.ref (h.objs.size + 1)))) s'
        | .ok _ => False
        | .error e => E e s')
      ⟨(h.push (W.kdv_tup rest)).push (excO C h.objs.size), g, d, t, os⟩) :
    wpAny (model prog w) A (Builtin.«type.__call__» ⟨.ref C :: rest, kw⟩) Q E ⟨h, g, d, t, os⟩ := by
  repeat (first | with_reducible refine wpAny_loadPart_at hC ?_ | with_reducible refine wpAny_madeBy_exc hC ?_ | wp_step)
  refine codeAny_call_builtin_code (Code.quiet_builtin _ F.quiet) (kwLookNew F hT hC ?_)
  refine kwNew F hT hC ?_ hl
  show wpAny _ _ _ _ _ _
  have k : ∀ b o, h.get? b = some o →
      ((h.push (W.kdv_tup rest)).push (excO C h.objs.size)).get? b = some o := fun b o e =>
    Heap.get?_push_of_some _ (Heap.get?_push_of_some _ e)
  have hC1 := k _ _ hC
  have here : ((h.push (W.kdv_tup rest)).push (excO C h.objs.size)).get? (h.objs.size + 1) =
      some (excO C h.objs.size) := by heap_get
  have inC : (Value.ref C :: bm).contains (.ref C) = true := by simp
  have i1 := hi.keeps k
  have b1 := (hb (.ref (h.objs.size + 1))).keeps k
  unfold isInstance
  repeat (first
    | with_reducible refine wpAny_loadPart_at here ?_
    | (with_reducible refine wpAny_isSubtype_exc hC1 ?_; rw [inC])
    | wp_step)
  show wpAny _ _ (typeLookup (.ref C) _) _ _ _
  refine i1.at ?_
  refine wpAny_holding (wpAny_bind (b1.at ?_))
  refine wpAny_bind (wpAny_call (codeAny_mono hq fun r s' z => ?_))
  rcases r with e | (v | _ | _ | _) <;> first | exact z | exact z.elim | skip
  obtain ⟨rfl, z⟩ := z
  first
    | exact wpAny_pure (wpAny_pure z)
    | (wp_walk; exact z)
theorem kwCall (F : ExcBaseFacts B newId initId bmB)
    (hT : ∀ X : String, bm.contains (.type X) = bmB.contains (.type X)) {rest : List Value} {fI : Addr}
    (hC : h.get? C = some (excClassObj nm q C N bs bm hdct sn sub ab col dd k0 k1 k2 k3 k5 newId))
    (hi : W.Looks (model prog w) h (typeLookup (.ref C) "__init__") (some (.ref fI)))
    (hb : ∀ self, W.Looks (model prog w) h (bindSpecial (.ref fI) self) (.ref fI, [self])) (hl : rest.length ≤ sizeLine)
    (hq : codeAny (model prog w) (A.under (.builtin "type.__call__" ⟨.ref C :: rest, kw⟩))
      (.call (.ref fI) ⟨.ref (h.objs.size + 1) :: rest, kw⟩) (W.InitBack (h.objs.size + 1) R)
      ⟨(h.push (W.kdv_tup rest)).push (excO C h.objs.size), g, d, t, os⟩) :
    codeAny (model prog w) A (.call (.ref C) ⟨rest, kw⟩) R ⟨h, g, d, t, os⟩ := by
  have f1 := tc_lookup
  have f2 := tc_bind (.ref C)
  have hTy : (⟨h, g, d, t, os⟩ : Shared).TypeIs (.ref C) "type" := ⟨_, hC, rfl⟩
  refine codeAny_of_tree ?_
  show wpAny _ _ (callAny (.ref C) _) _ _ _
  repeat (any_goals (first | assumption | with_reducible refine wpAny_loadPart_at hC ?_ | wp_step))
  refine ⟨rfl, ?_⟩
  refine codeAny_call_builtin_at (Code.quiet_builtin _ (by decide +kernel)) entry_typeCall
    (kwLookCall hC (kwTypeCall F hT hC hi hb hl ?_))
  refine codeAny_mono hq fun r s' z => ?_
  rcases r with e | (v | _ | _ | _) <;> exact z
end
end HandSPX
end PySem
set_option maxHeartbeats 0
namespace L2
open PySem PySem.Spec PyProof.Rows
/-- what the written part says of an own error's class -/
structure ErrK (K : PySem.W.Frag) (C : Addr) : Prop where
  T : OexC K C
  ga : PySem.W.findIn K (.ref C) "__getattribute__" = some (some (.builtin "BaseException.__getattribute__"))
  gg : PySem.W.findIn K (.ref C) "__getattr__" = some none
  hd : PySem.W.hasDictIn K C = true
  cc : PySem.W.findIn K (.ref C) "__class__" = some (some (.builtin "object.__class__"))
  mo : PySem.W.mroIn K C (.type "object") = some true
theorem classGet (K : PySem.W.Frag) : PySem.W.specialIn K (.builtin "object.__class__") "__get__" =
    some (some (.builtin "getset_descriptor.__get__")) := by kernel_rfl
theorem classTakes (K : PySem.W.Frag) : PySem.W.takesIn K (.builtin "object.__class__") = some true := by kernel_rfl
section
variable {X : Cx} {pins : List (Addr × Obj)} {σ : St} {H : Hp} {s : Shared} {CX : CXT} {k n : Nat} {fI C : Addr}
  {fd : FuncData} {ps ks : List Str} {sp : Sp} {x : Str} {p pos : Pos} {e : Expr} {es : List Expr} {kws : List Keyword}
  {t tk : TA} {g : List Value → List Value → List Value} {gV : List V → List V → List V}
/-- the class is called with values and keywords: its own __init__ keeps sp; the exception stands in the heap -/
theorem run_oex {Q : VK} {us ws : List Value} {vs zs : List V} (T : OexC X.K C)
    (iC : PySem.W.findIn X.K (.ref C) "__init__" = some (some (.ref fI)))
    (tI : PySem.W.typeIn X.K (.ref fI) = some (.type "function"))
    (F1 : FnOk X.prog X.w X.K X.mg X.base CX k fI fd ps sp) (hr : Room (k + 1) X.A)
    (hb : KBn X.K fd ps (n + 1) ks g gV) (hx : Passes CX X (fun _ _ _ => False)) (I : Inv X pins σ H s)
    (r : Vals vs us) (rz : Vals zs ws) (l1 : vs.length = n) (l2 : zs.length = ks.length) (ln : n ≤ 1000)
    (h : ∀ a, H a = none → sp (gV (.ref a :: vs) zs) (upd H a (exo a C none))
      (fun v H2 => v = .non ∧ Q (.ref a) H2) (fun _ _ _ => False)) :
    wpAny (model X.prog X.w) X.A (call (.ref C) us (ks.zip ws)) (EP X pins σ Q) X.xe s := by
  obtain ⟨nm, q, N, bs, bm, sn, sub, ab, col, dd, k0, k1, k2, k3, k5, hC, hbm⟩ := T.cls
  obtain ⟨hp, gs, dr, tok, os⟩ := s
  have up1 : hp.objs.size ≤ hp.objs.size + 1 := Nat.le_succ _
  have nw : H (hp.objs.size + 1) = none := I.hok.fresh up1
  have hq := h (hp.objs.size + 1) nw
  have kk : ∀ b o, hp.get? b = some o →
      ((hp.push (PySem.W.kdv_tup us)).push (PySem.HandSPX.excO C hp.objs.size)).get? b = some o := fun b o e =>
    Heap.get?_push_of_some _ (Heap.get?_push_of_some _ e)
  have here : ((hp.push (PySem.W.kdv_tup us)).push (PySem.HandSPX.excO C hp.objs.size)).get? (hp.objs.size + 1) =
      some (PySem.HandSPX.excO C hp.objs.size) := by heap_get
  have I2 : Inv X pins σ (upd H (hp.objs.size + 1) (exo (hp.objs.size + 1) C none))
      ⟨(hp.push (PySem.W.kdv_tup us)).push (PySem.HandSPX.excO C hp.objs.size), gs, dr, tok, os⟩ :=
    I.laid (t' := tok) (a := hp.objs.size + 1) (o := exo (hp.objs.size + 1) C none)
      (h' := (hp.push (PySem.W.kdv_tup us)).push (PySem.HandSPX.excO C hp.objs.size)) kk up1 (exo_ok here)
  have r1 : Vals (V.ref (hp.objs.size + 1) :: vs) (Value.ref (hp.objs.size + 1) :: us) := .cons rfl r
  have n1 : (Value.ref (hp.objs.size + 1) :: us).length = n + 1 := by
    rw [List.length_cons, ← r.length, l1]
  have lus : us.length ≤ sizeLine := by
    rw [← r.length, l1, sizeLine_eq]; omega
  refine wpAny_call (PySem.HandSPX.kwCall PySem.F.excBase_ValueError
    (fun Y => PySem.HandSPX.refsVE_contains Y bm hbm) (I.kIn _ _ hC)
    (PySem.W.looks_findIn I.kIn iC) (fun self => PySem.W.bind_fn I.kIn self tI) lus
    (codeAny_mono (F1.run _ X.stack _ _
      ⟨Value.ref (hp.objs.size + 1) :: us, ks.zip ws⟩ (g (Value.ref (hp.objs.size + 1) :: us) ws) _ _
      (fun _ _ _ => False) (hr.make C us (ks.zip ws)) (I2.env0.make C us (ks.zip ws))
      (hb.to _ (Value.ref (hp.objs.size + 1) :: us) ws I2.kIn n1 (rz.length.symm.trans l2)) (hb.rel r1 rz) hq)
      fun r s' hq' => ?_))
  cases r with
  | error e => exact hx pins σ _ _ e s' I2 hq'
  | ok fl =>
    cases fl with
    | ret u =>
      obtain ⟨v, H', I3, rv, ev, q3⟩ := I2.after hq'
      subst ev
      exact ⟨rv, ⟨V.ref (hp.objs.size + 1), H', I3, rfl, q3⟩⟩
    | next => exact False.elim hq'
    | brk => exact False.elim hq'
    | cont => exact False.elim hq'
/-- C(e, ..) -/
def tOexP (C : Addr) (n : Nat) (sp : Sp) (t : TA) : TE := fun σ H Q => t σ H fun vs H1 => vs.length = n ∧ ∀ a, H1 a = none →
  sp (.ref a :: vs) (upd H1 a (exo a C none)) (fun v H2 => v = .non ∧ Q (.ref a) H2) (fun _ _ _ => False)
theorem pe_oexP (E : ErrK X.K C) (iC : PySem.W.findIn X.K (.ref C) "__init__" = some (some (.ref fI)))
    (tI : PySem.W.typeIn X.K (.ref fI) = some (.type "function"))
    (F : FnOk X.prog X.w X.K X.mg X.base CX k fI fd ps sp) (hr : Room (k + 1) X.A) (hg : Gl X x)
    (hm : X.mg x = some (.ref C)) (hb : KBn X.K fd ps (n + 1) [] (fun us _ => us) (fun vs _ => vs))
    (hx : Passes CX X (fun _ _ _ => False)) (ln : n ≤ 1000) (ha : PA X (e :: es) t)
    (hdb : (x == ("__debug__" : Str)) = false := by decide)
    (he : starEach (e :: es) X.env = (false, eval e X.env) :: starEach es X.env := by rfl)
    (hpl : (backTo pos (starEach es X.env)).any (·.1) = false := by rfl) :
    PE X (.Call (.Name x p) (e :: es) [] pos) (tOexP C n sp t) := by
  refine ⟨fun pins s σ H Q I h => ?_⟩
  refine wpAny_Call_Name_kw (ld_glob I hg hm ?_ hdb)
  refine PySem.W.callWith_K (h₀ := X.base) I.ok.mod.kin E.T.kC
    (thn (ha.run pos pins s σ H _ I h) fun us s1 ⟨vs, H1, I1, r, l1, q⟩ => ⟨I1.kIn, ?_⟩) he hpl
  exact run_oex (us := us) (ws := []) (zs := []) (ks := []) E.T iC tI F hr hb hx I1 r .nil l1 rfl ln q
/-- C(k = e, ..) -/
def tOexK (C : Addr) (m : Nat) (sp : Sp) (gV : List V → List V → List V) (tk : TA) : TE := fun σ H Q => tk σ H fun zs H1 =>
  zs.length = m ∧ ∀ a, H1 a = none →
    sp (gV [.ref a] zs) (upd H1 a (exo a C none)) (fun v H2 => v = .non ∧ Q (.ref a) H2) (fun _ _ _ => False)
theorem pe_oexK (E : ErrK X.K C) (iC : PySem.W.findIn X.K (.ref C) "__init__" = some (some (.ref fI)))
    (tI : PySem.W.typeIn X.K (.ref fI) = some (.type "function"))
    (F : FnOk X.prog X.w X.K X.mg X.base CX k fI fd ps sp) (hr : Room (k + 1) X.A) (hg : Gl X x)
    (hm : X.mg x = some (.ref C)) (hb : KBn X.K fd ps 1 ks g gV) (hx : Passes CX X (fun _ _ _ => False)) (hkw : PK X kws tk)
    (hall : (backToKw pos (keywordEach kws X.env)).all (·.1.isSome) = true := by rfl)
    (hks : (backToKw pos (keywordEach kws X.env)).filterMap (·.1) = ks := by rfl)
    (hdb : (x == ("__debug__" : Str)) = false := by decide)
    (hpl : ((backTo pos (starEach [] X.env)).any (·.1) || (backToKw pos (keywordEach kws X.env)).any (·.1.isNone)) = false := by rfl) :
    PE X (.Call (.Name x p) [] kws pos) (tOexK C ks.length sp gV tk) := by
  refine ⟨fun pins s σ H Q I h => ?_⟩
  refine wpAny_Call_Name_kw (ld_glob I hg hm ?_ hdb)
  refine PySem.W.callWith_KW0 (h₀ := X.base) I.ok.mod.kin E.T.kC hall ?_ hpl
  refine thn (hkw.run pos pins s σ H _ I h) fun ws s2 ⟨zs, H2, I2, rz, l2, q2⟩ => ⟨I2.kIn, ?_⟩
  rw [hks]
  exact run_oex (us := []) (vs := []) (n := 0) E.T iC tI F hr hb hx I2 .nil rz rfl l2 (Nat.zero_le _) q2
/-- C(), no own __init__ in the class nor above it -/
theorem pe_oex0 {bmB : List Value} {B newId initId : String} (F : ExcBaseFacts B newId initId bmB)
    (q : PySem.W.excIn X.K C bmB newId = true) (gC : X.mg x = some (.ref C))
    (kC : PySem.W.keepIn X.K (.ref C) = true) (hg : Gl X x) (hdb : (x == ("__debug__" : Str)) = false := by decide) :
    PE X (.Call (.Name x p) [] [] pos) (fun σ H Q => ∀ a, H a = none → Q (.ref a) (upd H a (exo a C none))) := by
  refine ⟨fun pins s σ H Q I h => ?_⟩
  refine wpAny_Call_Name_kw (ld_glob I hg gC ?_ hdb)
  refine PySem.W.callWith_K0 I.kIn kC ?_
  show wpAny _ _ (call (.ref C) []) _ _ _
  obtain ⟨bm, N, nm, qn, bs, hdct, sn, sub, ab, col, dd, k0, k1, k2, k3, k5, mN, hC, hN, hni, T⟩ := exc_obj I.kIn q
  refine wpAny_call_exc_subT F T hC hN hni (fun h' a hm => ?_) (Nat.zero_le _)
  have hn : H a = none := I.hok.gone hm.new
  obtain ⟨t, ht, _, _⟩ := hm.there
  exact ⟨.ref a, upd H a (exo a C none), I.laidN hm.keeps hm.new hn (exo_ok ht), rfl, h a hn⟩
/-- e.f of an error that stands in the heap -/
def tOexF (K : PySem.W.Frag) (f : Str) (te : TE) : TE := fun σ H Q => te σ H fun x H1 => ∃ (a C dx : Addr) (fs : List (Str × V)) (v : V),
  x = .ref a ∧ ErrK K C ∧ PySem.W.findIn K (.ref C) f = some none ∧ H1 a = some (exo a C (some dx)) ∧
  H1 dx = some (exd dx fs) ∧ fs.lookup f = some v ∧ Q v H1
theorem pe_oexF {f : Str} {te : TE} (he : PE X e te)
    (hb : attributeBase e f X.env (eval e X.env) = eval e X.env := by rfl) :
    PE X (.Attribute e f pos) (tOexF X.K f te) := by
  refine ⟨fun pins s σ H Q I h => ?_⟩
  refine attr_of hb (thn (he.run pins s σ H _ I h) fun u s1 hh => ?_)
  obtain ⟨x, H1, I1, rx, a, C, dx, fs, v, ex, E, hno, ea, ed, hl, q⟩ := hh
  subst ex
  obtain rfl : u = Value.ref a := rx
  obtain ⟨t1, ho⟩ := exo_at I1.hok ea
  obtain ⟨mA, hns, rel⟩ := exd_at I1.hok ed
  obtain ⟨od, hod, look⟩ := lookIn_ns hns
  obtain ⟨w', hw, rw'⟩ := RelO.some_of (v := v) (o := mA f) (by rw [← hl]; exact rel f)
  have J : PySem.W.InstAt s1.heap a { cls := .ref C, dict := some dx, data := .fields #[.ref t1, .none, .none, .none, .bool false, .none] } C (some od) :=
    ⟨ho, rfl, rfl, hod⟩
  exact PySem.HandSPX.exc_get I1.kIn J E.ga E.gg E.T.exC
    (PySem.W.findObj_own E.hd hno rfl (by rw [look, hw])) (handed_of rw') ⟨v, H1, I1.tok _, rw', q⟩
/-- isinstance(e, c) of an error that stands in the heap -/
def rIsO (K : PySem.W.Frag) : List V → Hp → VK → Prop := fun xs H Q => ∃ (a C : Addr) (d : Option Addr) (c : V) (cv : Value) (b : Bool),
  xs = [.ref a, c] ∧ ErrK K C ∧ H a = some (exo a C d) ∧ (∀ dx, d = some dx → ∃ fs, H dx = some (exd dx fs)) ∧
  ClsV c cv ∧ PySem.W.kitOne K (.ref C) cv = some b ∧ Q (.bl b) H
theorem call_isO : CallR X (.builtin "isinstance") (rIsO X.K) := by
  intro pins s σ H xs us Q I r h
  obtain ⟨a, C, d, c, cv, b, rfl, E, ea, ed, k, e, q⟩ := h
  obtain ⟨u1, u2, rfl, r1, r2⟩ := vals2 r
  obtain rfl := k.eq r2
  obtain rfl : u1 = Value.ref a := r1
  obtain ⟨t1, ho⟩ := exo_at I.hok ea
  have cl : (PySem.W.clsIn X.K C).isSome = true := by
    obtain ⟨cd, hc, _⟩ := PySem.W.any_some E.hd
    rw [hc]; rfl
  have J : ∃ od, PySem.W.InstAt s.heap a { cls := .ref C, dict := d, data := .fields #[.ref t1, .none, .none, .none, .bool false, .none] } C od := by
    cases d with
    | none => exact ⟨none, ho, rfl, rfl, trivial⟩
    | some dx =>
      obtain ⟨fs, h2⟩ := ed dx rfl
      obtain ⟨mA, hns, _⟩ := exd_at I.hok h2
      obtain ⟨od, hod, _⟩ := lookIn_ns hns
      exact ⟨some od, ho, rfl, rfl, hod⟩
  obtain ⟨od, J⟩ := J
  exact PySem.W.kia_one (PySem.W.kitx_exc cl E.ga E.gg E.T.exC E.cc (classGet _) (classTakes _) E.mo) I.kIn J e
    (fun z => nomatch z) fun tk => ⟨.bl b, H, I.tok tk, rfl, q⟩
end
end L2
set_option maxHeartbeats 0
namespace L2
open PySem PySem.Spec PyProof.Rows LamX
/-- at f: a lambda that captures nothing, its code object at c -/
def LamO (f : Addr) (q : Str) (params : Arguments) (body : Expr) (scope : Scope) (c : Addr) : HO :=
  .ext fun h => ∃ pm ctv, h.get? f = some (PySem.W.kla_obj "<lambda>" q params body scope [] pm c ctv)
theorem lamO_ok {P : Program} {w : World} {H : Hp} {h : Heap} {f c : Addr} {q : Str} {params : Arguments} {body : Expr}
    {scope : Scope} {pm ctv : Value} (e : h.get? f = some (PySem.W.kla_obj "<lambda>" q params body scope [] pm c ctv)) :
    ObjOk P w H h f (LamO f q params body scope c) :=
  ⟨⟨pm, ctv, e⟩, ⟨_, e⟩, fun _ _ ⟨pm, ctv, z⟩ k => ⟨pm, ctv, k _ z⟩⟩
theorem lamO_at {P : Program} {w : World} {H : Hp} {h : Heap} {f c : Addr} {q : Str} {params : Arguments} {body : Expr}
    {scope : Scope} (hok : HOk P w H h) (e : H f = some (LamO f q params body scope c)) :
    ∃ pm ctv, h.get? f = some (PySem.W.kla_obj "<lambda>" q params body scope [] pm c ctv) := by
  have x : ObjOk P w H h f (.ext fun h => ∃ pm ctv, h.get? f = some (PySem.W.kla_obj "<lambda>" q params body scope [] pm c ctv)) :=
    hok f _ e
  exact x.1
/-- a lambda as a value: its code object is new, or stands in the maker's table -/
def tLamN (T : List (Addr × Str)) (q : Str) (params : Arguments) (body : Expr) (scope : Scope) : TE := fun _ H Q =>
  Tabs T H ∧ ∀ (f c : Addr) (H1 : Hp), ExtN H H1 → Tabs T H1 → H1 f = none → H1 c = some (CodeO c q) →
    Q (.ref f) (upd H1 f (LamO f q params body scope c))
section
variable {X : Cx}
theorem pe_lamN {T : List (Addr × Str)} {c P : Addr} {params : Arguments} {body : Expr} {scope : Scope} {pos : Pos}
    (TB : TabB X.base X.mg c P) (hcode : X.env.code = .ref c) (hm : (P, X.env.qual ++ "<lambda>") ∈ T)
    (hu : ∀ p ∈ T, p.1 = P → p.2 = X.env.qual ++ "<lambda>") (hdef : defaultsOf params X.env = ([], []))
    (hcl : closureFor scope X.env = pure []) :
    PE X (.Lambda params body scope pos) (tLamN T (X.env.qual ++ "<lambda>") params body scope) := by
  refine ⟨fun pins s σ H Q I h => ?_⟩
  obtain ⟨hT, h⟩ := h
  obtain ⟨ps, hP, ht, ha⟩ := hT _ hm
  refine PySem.W.kla_eval hdef ?_
  have bP : s.heap.BuiltinsAt X.mg P := TB.bm.keeps I.bk
  have hP' : s.heap.get? P = some { cls := .none, data := .fields ps } := I.hok P _ hP
  cases hc : codeAmong pos ps.toList with
  | none =>
    refine PySem.W.kla_makeFunction (mg := X.mg) (c := c) (P := P) (ps := ps) hcl I.ok.glob (I.mod.glob.keeps I.bk)
      hcode (TB.code.keeps I.bk) hP' ht hc TB.gP bP fun c' ctv h' tk hx hge hlt hrec htb => ?_
    obtain ⟨c2, oc, vs, t, e2, hoc, hd, hv⟩ := hrec
    cases e2
    have nC : H c' = none := I.hok.fresh hge
    have I1 := inv_table (t' := tk) (more := #[rawInt pos.line, rawInt pos.col, .ref c']) (h' := h') (q := X.env.qual ++ "<lambda>")
      I hP (fun b o hb e => hx b o hb e) htb hge ⟨oc, vs, t, hoc, hd, hv⟩
    have hE : ExtN H (upd (upd H P (.tbl (ps ++ #[rawInt pos.line, rawInt pos.col, .ref c']))) c'
        (CodeO c' (X.env.qual ++ "<lambda>"))) := fun b o e n => by
      rw [upd_ne (ne_of_none e nC), upd_ne (fun z => n ps (Option.some.inj (e.symm.trans (by rw [z]; exact hP))))]
      exact e
    have eL : (ps ++ #[rawInt pos.line, rawInt pos.col, .ref c']).toList =
        ps.toList ++ [rawInt pos.line, rawInt pos.col, .ref c'] := by simp
    have hT1 : Tabs T (upd (upd H P (.tbl (ps ++ #[rawInt pos.line, rawInt pos.col, .ref c']))) c'
        (CodeO c' (X.env.qual ++ "<lambda>"))) := fun p hp => by
      by_cases hb : p.1 = P
      · rw [hu p hp hb, hb]
        refine ⟨_, by rw [upd_ne (ne_of_none hP nC), upd_same], ?_, fun p' cv hcv => ?_⟩
        · rw [eL]; exact PySem.TriplesOk_snoc _ _ _ _ ht
        · rw [eL] at hcv
          rcases among_app _ ht hcv with z | z
          · obtain ⟨c0, e1, e2⟩ := ha p' cv z
            exact ⟨c0, e1, hE _ _ e2 codeO_ne⟩
          · exact ⟨c', z, upd_same⟩
      · obtain ⟨ps', a1, a2, a3⟩ := hT p hp
        refine ⟨ps', by rw [upd_ne (ne_of_none a1 nC), upd_ne hb]; exact a1, a2, fun p' cv hcv => ?_⟩
        obtain ⟨c0, e1, e2⟩ := a3 p' cv hcv
        exact ⟨c0, e1, hE _ _ e2 codeO_ne⟩
    have I2 := I1.laid (t' := tk) (a := h'.objs.size) (h' := h'.push (PySem.W.kla_obj "<lambda>" (X.env.qual ++ "<lambda>")
        params body scope [] ((X.mg "__name__").getD .none) c' ctv)) (o := LamO h'.objs.size (X.env.qual ++ "<lambda>") params body scope c')
      (fun b u q => Heap.get?_push_of_some _ q) (Nat.le_refl _) (lamO_ok (Heap.get?_push_size _ rfl))
    exact ⟨.ref h'.objs.size, _, I2, rfl, h _ c' _ hE hT1 (I1.hok.fresh (Nat.le_refl _)) upd_same⟩
  | some cv =>
    obtain ⟨c', e, hco⟩ := ha pos cv hc
    subst e
    refine PySem.W.kla_makeFunctionHit (mg := X.mg) (c := c) (P := P) (ps := ps) hcl I.ok.glob (I.mod.glob.keeps I.bk)
      hcode (TB.code.keeps I.bk) hP' ht hc bP fun ctv h' tk hx hsz => ?_
    have I1 : Inv X pins σ H { s with heap := h', toks := tk } := I.kept hx
    have I2 := I1.laid (t' := tk) (a := h'.objs.size) (h' := h'.push (PySem.W.kla_obj "<lambda>" (X.env.qual ++ "<lambda>")
        params body scope [] ((X.mg "__name__").getD .none) c' ctv)) (o := LamO h'.objs.size (X.env.qual ++ "<lambda>") params body scope c')
      (fun b u q => Heap.get?_push_of_some _ q) (Nat.le_refl _) (lamO_ok (Heap.get?_push_size _ rfl))
    exact ⟨.ref h'.objs.size, _, I2, rfl, h _ c' H (ExtN.refl H) hT (I1.hok.fresh (Nat.le_refl _)) hco⟩
end
/-- what a lambda's text does, from whatever frame it is called -/
structure LamD (P : Program) (w : World) (K : PySem.W.Frag) (mg : Str → Option Value) (base : Heap) (k : Nat)
    (params : Arguments) (body : Expr) (scope : Scope) (N ps : List Str) (tb : TE) : Prop where
  sc : FnScope N ps scope
  bind : ∀ (q : Str) (pm cv ctv : Value) (us : List Value), us.length = ps.length →
    bindArgs (PySem.W.kla_fn "<lambda>" q params body scope [] pm cv ctv) ⟨us, []⟩ = pure (ps.zip us)
  run : ∀ (A : Around) (outer : List Env) (s : Shared) (H : Hp) (f : Addr) (cd : Value) (q : Str) (E : XK),
    Room k (A.deeper (envOfC q scope s.heap.objs.size f cd)) →
    PE (cxOf (fun _ _ _ _ _ _ => False) P w K mg base N q scope f cd A outer s H E) body tb
/-- x(e, ..), the slot i of x holds a lambda -/
def tCallLam (P : Program) (w : World) (K : PySem.W.Frag) (mg : Str → Option Value) (base : Heap) (k i : Nat) (t : TA) : TE := fun σ H Q =>
  ∃ f, σ[i]? = some (some (.ref f)) ∧ (∃ q params body scope c, H f = some (LamO f q params body scope c)) ∧
    t σ H fun vs H1 => ∃ (params : Arguments) (body : Expr) (scope : Scope) (N ps : List Str) (tb : TE) (c : Addr) (q : Str),
    LamD P w K mg base k params body scope N ps tb ∧ vs.length = ps.length ∧ H1 f = some (LamO f q params body scope c) ∧
    H1 c = some (CodeO c q) ∧ tb (start N vs) H1 Q
section
variable {X : Cx} {k i : Nat} {x : Str} {p pos : Pos} {e : Expr} {es : List Expr} {t : TA}
theorem pe_callLam (hr : Room (k + 1) X.A) (hN : X.N[i]? = some x) (hv : Vis X.env.scope x) (ha : PA X (e :: es) t)
    (hdb : (x == ("__debug__" : Str)) = false := by decide) (hcd : (x == ("__classdict__" : Str)) = false := by decide)
    (he : starEach (e :: es) X.env = (false, eval e X.env) :: starEach es X.env := by rfl)
    (hpl : (backTo pos (starEach es X.env)).any (·.1) = false := by rfl) :
    PE X (.Call (.Name x p) (e :: es) [] pos) (tCallLam X.prog X.w X.K X.mg X.base k i t) := by
  refine ⟨fun pins s σ H Q I h => ?_⟩
  obtain ⟨f, hs, ⟨q0, pa0, bo0, sc0, c0, hf0⟩, ht⟩ := h
  refine wpAny_Call_Name_kw (thn ((pe_var (pos := p) hN hv hdb hcd).run pins s σ H (fun v H1 => v = .ref f ∧ H1 = H) I ⟨.ref f, hs, rfl, rfl⟩)
    fun u s1 ⟨v, H1, I1, r1, q1⟩ => ?_)
  obtain ⟨rfl, rfl⟩ := q1
  cases r1
  obtain ⟨pm0, ct0, of0⟩ := lamO_at I1.hok hf0
  refine PySem.W.callWith_F ⟨_, _, _, _, of0⟩ (thn (ha.run pos pins s1 σ _ _ I1 ht) fun us s2 hh => ?_) he hpl
  obtain ⟨vs, H2, I2, r2, params, body, scope, N, ps, tb, c, q, L, hl, hf, hc, htb⟩ := hh
  obtain ⟨pm, ctv, of2⟩ := lamO_at I2.hok hf
  refine ⟨⟨_, _, _, _, of2⟩, ?_⟩
  show wpAny _ _ (call (.ref f) us) _ _ _
  obtain ⟨⟨oc, ws, tok, hoc, hdc, hvc⟩, _, _⟩ := I2.hok c _ hc
  have lu : us.length = ps.length := r2.length.symm.trans hl
  have rc : codeAny (model X.prog X.w) X.A (.call (.ref f) ⟨us, []⟩)
      (CR (fun _ _ _ _ _ _ => False) X.stack X.prog X.w H2 s2 Q (fun _ _ _ => False)) s2 := by
    refine PySem.W.kla_callFunE hr.depth of2 rfl L.sc.co L.sc.gen rfl ⟨c, oc, ws, tok, rfl, hoc, hdc, hvc⟩ ?_
    rw [L.bind q pm (.ref c) ctv us lu]
    have hkind : ∀ y ∈ ps.zip us, scope.names.lookup y.1 = some .local ∨ (scope.names.lookup y.1 = some .cell ∧
        ((cellsFrom (s2.heap.objs.size + 1) scope.names []).lookup y.1).isSome = true) := fun ⟨n, v⟩ hy => by
      rcases L.sc.par n (List.of_mem_zip hy).1 with z | z
      · exact .inl z
      · exact .inr ⟨z, PySem.W.cellsFrom_some _ _ _ (.inl z)⟩
    refine wpAny_pure (wpAny_newFunctionEnv_cells L.sc.kind hkind fun env he s3 y => ?_)
    subst he
    refine ⟨I2.nolimit.keeps y.toInCall.keep, ?_⟩
    have J : Inv (cxOf (fun _ _ _ _ _ _ => False) X.prog X.w X.K X.mg X.base N q scope f (.ref c) X.A X.stack s2 H2 (fun _ _ _ => False))
        [] (start N vs) H2 s3 := inv_start L.sc hr.hd I2.env0 hl r2 y
    refine PySem.W.kla_codeExpr (wpAny_mono ((L.run X.A X.stack s2 H2 f (.ref c) q (fun _ _ _ => False) (hr.deeper _)).run
      [] _ _ H2 Q J htb) (fun v s' hq => ?_) fun e s' hq => hq)
    obtain ⟨w', H', J', rv, z⟩ := hq
    exact ⟨w', H', J'.os, J'.bare, J'.base, J'.hok, rv, z⟩
  refine wpAny_call (codeAny_mono rc fun r s' hq => ?_)
  cases r with
  | error e => exact False.elim hq
  | ok fl =>
    cases fl with
    | ret u => exact I2.after hq
    | next => exact False.elim hq
    | brk => exact False.elim hq
    | cont => exact False.elim hq
end
end L2
set_option maxHeartbeats 0
namespace L2
open PySem PySem.Spec PyProof.Rows LamX
/-- the text of a value that holds no object -/
def leafT : V → Str → Prop
  | .non, t => t = ("None" : Str)
  | .bl b, t => t = (if b then ("True" : Str) else ("False" : Str))
  | .int i, t => i.natAbs.log2 < 1920 ∧ t = (toString i : String)
  | .str x, t => (reprText x).length ≤ sizeLine ∧ t = reprText x
  | _, _ => False
/-- the text of a value at depth n at most, as: the objects in it -/
def TxN (H : Hp) : Nat → List Addr → V → Str → Prop
  | 0 => fun _ v t => leafT v t
  | n + 1 => fun as v t => leafT v t ∨
    (∃ (a : Addr) (xs : List V) (ts : List Str) (as' : List Addr), v = .ref a ∧ (∀ b ∈ a :: as', b ∈ as) ∧ a ∉ as' ∧ xs ≠ [] ∧
      H a = some (.lst xs) ∧ Paired (TxN H n as') xs ts ∧ t = listText ts) ∨
    (∃ (a : Addr) (xs : List V) (ts : List Str) (as' : List Addr), v = .ref a ∧ (∀ b ∈ a :: as', b ∈ as) ∧ a ∉ as' ∧
      H a = some (.tup xs) ∧ Paired (TxN H n as') xs ts ∧ t = tupleText ts) ∨
    (∃ (a : Addr) (k : Str) (x : V) (tx : Str) (as' : List Addr), v = .ref a ∧ (∀ b ∈ a :: as', b ∈ as) ∧ a ∉ as' ∧
      H a = some (.dK [(Sum.inr k, x)]) ∧ (reprText k).length ≤ sizeLine ∧ TxN H n as' x tx ∧ t = dictText [reprText k ++ ": " ++ tx])
theorem TxN.same {H H' : Hp} : ∀ (n : Nat) (as : List Addr) (v : V) (t : Str), (∀ a ∈ as, ∀ o, H a = some o → H' a = some o) → TxN H n as v t → TxN H' n as v t
  | 0, _, _, _, _, h => h
  | n + 1, as, v, t, k, h => by
    rcases h with h | ⟨a, xs, ts, as', rfl, sb, na, ne, ha, hp, rfl⟩ | ⟨a, xs, ts, as', rfl, sb, na, ha, hp, rfl⟩ | ⟨a, q, x, tx, as', rfl, sb, na, ha, hk, hx, rfl⟩
    · exact .inl h
    · exact .inr (.inl ⟨a, xs, ts, as', rfl, sb, na, ne, k a (sb a (by simp)) _ ha, L2.Paired.mapP hp fun v t h => TxN.same n as' v t (fun a ha => k a (sb a (by simp [ha]))) h, rfl⟩)
    · exact .inr (.inr (.inl ⟨a, xs, ts, as', rfl, sb, na, k a (sb a (by simp)) _ ha, L2.Paired.mapP hp fun v t h => TxN.same n as' v t (fun a ha => k a (sb a (by simp [ha]))) h, rfl⟩))
    · exact .inr (.inr (.inr ⟨a, q, x, tx, as', rfl, sb, na, k a (sb a (by simp)) _ ha, hk, TxN.same n as' x tx (fun a ha => k a (sb a (by simp [ha]))) hx, rfl⟩))
section
variable {X : Cx} {pins : List (Addr × Obj)} {σ : St} {H : Hp} {s : Shared}
theorem leafT.reprK {P : Program} {w : World} {as : List Addr} {h : Heap} {n : Nat} {v : V} {u : Value} {t : Str} (l : leafT v t) (r : RelV v u) :
    ReprK P w as h n u t := by
  cases v with
  | non =>
    obtain rfl : t = ("None" : Str) := l
    obtain rfl : u = Value.none := r
    exact .of_is ReprIs.none _ _ _
  | bl b =>
    obtain rfl : t = (if b then ("True" : Str) else ("False" : Str)) := l
    obtain rfl : u = Value.bool b := r
    exact .of_is (ReprIs.bool b) _ _ _
  | int i =>
    obtain ⟨h1, rfl⟩ := (show i.natAbs.log2 < 1920 ∧ t = (toString i : String) from l)
    obtain ⟨k, rfl⟩ := (show ∃ k, u = Value.int i k from r)
    exact .of_is (ReprIs.int k h1) _ _ _
  | str x =>
    obtain ⟨h1, rfl⟩ := (show (reprText x).length ≤ sizeLine ∧ t = reprText x from l)
    obtain ⟨k, rfl⟩ := (show ∃ k, u = Value.str x k from r)
    exact .of_is (ReprIs.str x k h1) _ _ _
  | _ => exact (show False from l).elim
theorem reprAll_of {P : Program} {w : World} {as : List Addr} {h : Heap} {n : Nat} {F : V → Str → Prop}
    (ih : ∀ v u t, F v t → RelV v u → ReprK P w as h n u t) : ∀ {xs : List V} {ts : List Str} {us : List Value},
    Paired F xs ts → Vals xs us → ReprAllK P w as h n us ts
  | _, _, _, .nil, .nil => .nil
  | _, _, _, .cons a b, .cons r q => .cons (ih _ _ _ a r) (reprAll_of ih b q)
theorem TxN.reprK (I : Inv X pins σ H s) : ∀ (n : Nat) (as : List Addr) (v : V) (u : Value) (t : Str), TxN H n as v t → RelV v u →
    ReprK X.prog X.w as s.heap n u t
  | 0, as, v, u, t, h, r => leafT.reprK (show leafT v t from h) r
  | n + 1, as, v, u, t, h, r => by
    rcases h with h | ⟨a, xs, ts, as', rfl, sb, na, ne, ha, hp, rfl⟩ | ⟨a, xs, ts, as', rfl, sb, na, ha, hp, rfl⟩ |
      ⟨a, k, x, tx, as', rfl, sb, na, ha, hk, hx, rfl⟩
    · exact leafT.reprK h r
    · obtain rfl : u = Value.ref a := r
      obtain ⟨z, its, m, rv, e⟩ := (show ObjOk X.prog X.w H s.heap a (.lst xs) from I.hok a _ ha)
      have q := reprAll_of (fun v u t => TxN.reprK I n as' v u t) hp rv
      cases its with
      | nil =>
        cases rv
        exact absurd rfl ne
      | cons y l =>
        exact ReprK.more (ReprK.list e rfl rfl na (by simpa using q.length_eq) fun i y e => q.item i y (by simpa using e)) sb
    · obtain rfl : u = Value.ref a := r
      obtain ⟨z, its, rv, o, e, c, m, d⟩ := (show ObjOk X.prog X.w H s.heap a (.tup xs) from I.hok a _ ha)
      exact ReprK.more (ReprK.tuple e c d na (by simpa using reprAll_of (fun v u t => TxN.reprK I n as' v u t) hp rv)) sb
    · obtain rfl : u = Value.ref a := r
      obtain ⟨z, sy, vs, kv, o, es, ep, e, ex, d, _, pr, _⟩ :=
        (show ObjOk X.prog X.w H s.heap a (.dK [(Sum.inr k, x)]) from I.hok a _ ha)
      cases kv with
      | @cons _ q0 _ qs h1 h2 =>
        cases h2
        obtain ⟨e1, e2⟩ := h1
        obtain ⟨kk, vv⟩ := q0
        have e1' : (Sum.inr k : Key) = kk := e1
        subst e1'
        obtain ⟨esl⟩ := es
        have pr' : Pairs (mixKind X.prog X.w) esl [(Sum.inr k, vv)] := pr
        cases pr' with
        | @cons en _ er _ p1 p2 p3 =>
          cases p3
          have hkey : keyIs (.inr k) en.key = true := p1
          rcases keyIs_shape hkey with ⟨i, t, q, _⟩ | ⟨y, t, q, ek⟩
          · cases q
          · cases q
            have hv : en.val = vv := p2
            refine ReprK.more (ReprK.dict e ex.1 d sy na ?_) sb
            show ReprEntriesK X.prog X.w as' s.heap n [en] [reprText k ++ ": " ++ tx]
            refine .cons ?_ ?_ .nil
            · rw [ek]
              exact .of_is (ReprIs.str k t hk) _ _ _
            · rw [hv]
              exact TxN.reprK I n as' x vv tx hx e2
/-- repr of a tracked list -/
def rReprL : List V → Hp → VK → Prop := fun xs H Q => ∃ (a : Addr) (ys : List V) (ts : List Str) (as : List Addr) (n : Nat),
  xs = [.ref a] ∧ H a = some (.lst ys) ∧ Paired (TxN H n as) ys ts ∧ a ∉ as ∧ n ≤ 20 ∧ (listText ts).length ≤ sizeLine ∧
  Q (.str (listText ts)) H
theorem call_reprL (hG : X.A.guards = some []) (hu : X.A.units + 64 < cLine) : CallR X (.builtin "repr") rReprL := by
  intro pins s σ H xs us Q I r h
  obtain ⟨a, ys, ts, as, n, rfl, ha, hp, na, ln, hz, q⟩ := h
  cases r with
  | cons r1 r2 =>
    cases r2
    rename_i u
    obtain rfl : u = Value.ref a := r1
    obtain ⟨z, its, m, rv, e⟩ := (show ObjOk X.prog X.w H s.heap a (.lst ys) from I.hok a _ ha)
    have qa := reprAll_of (fun v u t => TxN.reprK I n as v u t) hp rv
    have ty : s.TypeIs (.ref a) "list" := ⟨_, e, rfl⟩
    have done : ∀ h' (u' : Tok) tk, (∀ b o, s.heap.get? b = some o → h'.get? b = some o) →
        EP X pins σ Q (.str (listText ts) u') { s with heap := h', toks := tk } := fun h' u' tk k =>
      ⟨.str (listText ts), H, I.kept k, ⟨_, rfl⟩, q⟩
    refine call_repr_slot (by omega) ty F.slot_list_repr.toG ?_
    cases its with
    | nil =>
      cases qa
      refine call_list_repr_empty ty e rfl ⟨_, _, rfl, ?_⟩
      have z := done s.heap s.toks (s.toks + 1) fun _ _ e => e
      rw [listText_nil] at z
      exact z
    | cons y l =>
      refine call_list_reprK (A := X.A.in1) e rfl rfl na (by simpa using qa.length_eq) (fun i y e => qa.item i y (by simpa using e))
        (g := []) hG (fun b _ => Clear.nil b) (by show X.A.units + 1 + (n + 1) < cLine; omega) (fun _ _ e => e) (fun h' u' tk k => ⟨_, _, rfl, done h' u' tk k⟩) hz
end
end L2
set_option maxHeartbeats 0
namespace K0
open PySem PySem.Spec PyProof.Rows L2 LamX
/-- all but the things at S stays -/
def Kp (S : List Addr) (H H' : Hp) : Prop := ∀ b o, H b = some o → b ∉ S → H' b = some o
theorem Kp.refl {S : List Addr} {H : Hp} : Kp S H H := fun _ _ h _ => h
theorem Kp.trans {S : List Addr} {H H1 H2 : Hp} (a : Kp S H H1) (b : Kp S H1 H2) : Kp S H H2 :=
  fun c o h n => b c o (a c o h n) n
theorem Kp.mono {S S' : List Addr} {H H' : Hp} (a : Kp S H H') (h : ∀ b ∈ S, b ∈ S') : Kp S' H H' :=
  fun c o e n => a c o e (fun z => n (h c z))
theorem Kp.new {S : List Addr} {H : Hp} {a : Addr} {o : HO} (n : H a = none) : Kp S H (upd H a o) := fun b u e _ => by
  rw [upd_ne (ne_of_none e n)]; exact e
theorem Kp.put {S : List Addr} {H : Hp} {a : Addr} {o : HO} (n : a ∈ S) : Kp S H (upd H a o) := fun b u e z => by
  rw [upd_ne (fun q => z (by rw [q]; exact n))]; exact e
theorem Kp.lst {S : List Addr} {H H' : Hp} (k : Kp S H H') {a : Addr} {xs : List V} (h : H a = some (.lst xs)) (n : a ∉ S) :
    H' a = some (.lst xs) := k a _ h n
theorem Kp.drop {S : List Addr} {H H' : Hp} {a : Addr} (k : Kp (a :: S) H H') (n : H a = none) : Kp S H H' := fun b o e z =>
  k b o e (fun q => by
    rcases List.mem_cons.mp q with q | q
    · rw [q, n] at e; cases e
    · exact z q)
/-- all but the things at S, and the tables, stays -/
def KpN (S : List Addr) (H H' : Hp) : Prop := ∀ b o, H b = some o → b ∉ S → (∀ ps, o ≠ .tbl ps) → H' b = some o
theorem Kp.n {S : List Addr} {H H' : Hp} (k : Kp S H H') : KpN S H H' := fun b o e z _ => k b o e z
theorem KpN.refl {S : List Addr} {H : Hp} : KpN S H H := fun _ _ h _ _ => h
theorem KpN.trans {S : List Addr} {H H1 H2 : Hp} (a : KpN S H H1) (b : KpN S H1 H2) : KpN S H H2 :=
  fun c o h n t => b c o (a c o h n t) n t
theorem KpN.mono {S S' : List Addr} {H H' : Hp} (a : KpN S H H') (h : ∀ b ∈ S, b ∈ S') : KpN S' H H' :=
  fun c o e n t => a c o e (fun z => n (h c z)) t
theorem KpN.ext {S : List Addr} {H H' : Hp} (e : ExtN H H') : KpN S H H' := fun b o h _ t => e b o h t
theorem KpN.lst {S : List Addr} {H H' : Hp} (k : KpN S H H') {a : Addr} {xs : List V} (h : H a = some (.lst xs)) (n : a ∉ S) :
    H' a = some (.lst xs) := k a _ h n (fun _ z => by cases z)
theorem KpN.drop {S : List Addr} {H H' : Hp} {a : Addr} (k : KpN (a :: S) H H') (n : H a = none) : KpN S H H' := fun b o e z t =>
  k b o e (fun q => by
    rcases List.mem_cons.mp q with q | q
    · rw [q, n] at e; cases e
    · exact z q) t
theorem KpN.none_of {S : List Addr} {H H' : Hp} (k : KpN S H H') {a : Addr} (h : H' a = none) (n : a ∉ S)
    (t : ∀ ps, H a ≠ some (.tbl ps)) : H a = none := by
  cases e : H a with
  | none => rfl
  | some o =>
    have z := k a o e n (fun ps q => t ps (by rw [e, q]))
    rw [h] at z
    cases z
theorem Kp.tabs {S : List Addr} {H H' : Hp} {T : List (Addr × Str)} (k : Kp S H H') (hs : ∀ a ∈ S, ∃ xs, H a = some (.lst xs)) (h : Tabs T H) : Tabs T H' :=
  fun p hp => by
    obtain ⟨ps, h1, h2, h3⟩ := h p hp
    have go : ∀ b o, H b = some o → (∀ xs, o ≠ .lst xs) → H' b = some o := fun b o e n => k b o e fun z => by
      obtain ⟨xs, e2⟩ := hs b z
      rw [e] at e2
      exact n xs (Option.some.inj e2)
    refine ⟨ps, go _ _ h1 (fun _ z => by cases z), h2, fun pos cv hc => ?_⟩
    obtain ⟨c, e1, e2⟩ := h3 pos cv hc
    exact ⟨c, e1, go _ _ e2 (fun _ z => by cases z)⟩
/-- the names that the module and the built-ins have -/
structure Glb (mg : Str → Option Value) : Prop where
  list : mg "list" = none
  int : mg "int" = none
  len : mg "len" = none
  range : mg "range" = none
  isin : mg "isinstance" = none
  enum : mg "enumerate" = none
  repr : mg "repr" = none
  ve : mg "ValueError" = none
  le : mg "LookupError" = none
section
variable {P : Program} {w : World} {K : PySem.W.Frag} {mg : Str → Option Value} {base : Heap} {f : Addr} {fd : FuncData}
abbrev FnP (K : PySem.W.Frag) (x : Str) (i : Nat) (f : Addr) (fd : FuncData) : Prop :=
  FunD K x x (defArgs (top i)) (defBody (top i)) (defScope (top i)) [] [] f fd
/-! ### the start of the draws -/
def spStart (K : PySem.W.Frag) : Sp := fun vs H Q _ => ∃ (a : Addr) (ns : List Int), vs = [.ref a] ∧ SqL K H a (ns.map V.int) ∧
  ∀ l p, H l = none → H p = none → p ≠ l →
    Q (.ref p) (upd (upd H l (.lst (ns.map V.int))) p (.lst [.ref l, .int 0, .int 0, .int 11]))
theorem scStart : FnScope ["_law_script"] ["_law_script"] (defScope (top 55)) :=
  ⟨rfl, rfl, rfl, by decide +kernel, rfl, by decide +kernel, by decide +kernel⟩
theorem ok_start (F : FnP K "_law_start" 55 f fd) (G : Glb mg) : FnOk P w K mg base CX0 1 f fd ["_law_script"] (spStart K) := by
  refine F.ok scStart (fun vs H Q E h => ?_) (fun cdv A outer s H vs Q E hr h => ?_)
  · obtain ⟨a, ns, rfl, _⟩ := h
    rfl
  · obtain ⟨a, ns, rfl, hS, k⟩ := h
    refine ⟨_, pss_one (ps_ret (pe_lst (pa_cons (pe_callTy call_list_of (by rfl) G.list (by decide +kernel) (pa_cons (pv 0) pa_nil))
      (pa_cons pe_int (pa_cons pe_int (pa_cons pe_int pa_nil)))))), ?_⟩
    refine ⟨_, rfl, a, _, rfl, .inl hS, fun l hl => ?_⟩
    refine ⟨by show 4 ≤ sizeLine; decide, fun p hp => ?_⟩
    have npl : p ≠ l := fun z => by
      rw [z, upd_same] at hp
      cases hp
    rw [upd_ne npl] at hp
    exact k l p hl hp npl
end
end K0
set_option maxHeartbeats 0
namespace K0
open PySem PySem.Spec PyProof.Rows L2 LamX
/-- the spring of draws at st, its cells at l -/
structure Spring (H : Hp) (st l : Addr) (cs : List Int) (r c x : Int) : Prop where
  ne : l ≠ st
  s : H st = some (.lst [.ref l, .int r, .int c, .int x])
  l : H l = some (.lst (cs.map V.int))
  r0 : 0 ≤ r
  c0 : 0 ≤ c
  x0 : 0 ≤ x
  x1 : x < 2147483648
theorem dpInts {K : PySem.W.Frag} {H : Hp} : ∀ cs : List Int, DpAll K H (cs.map V.int) (cs.map PyData.int)
  | [] => .nil
  | c :: cs => .cons (.int c) (dpInts cs)
theorem shLay : ∀ cs : List Int, PyData.canLayAll0 (cs.map PyData.int) = true
  | [] => by simp [PyData.canLayAll0]
  | c :: cs => by simp [PyData.canLayAll0, PyData.canLay0, shLay cs]
theorem shDeep : ∀ cs : List Int, PyData.depthAll (cs.map PyData.int) ≤ 1
  | [] => by simp [PyData.depthAll]
  | c :: cs => by
    have := shDeep cs
    simp only [List.map_cons, PyData.depthAll, PyData.depth]
    omega
theorem shInts (cs : List Int) : SeqAt.shaped (.list (cs.map PyData.int)) = true := by
  have h1 := shLay cs
  have h2 := shDeep cs
  have h3 : PyData.depth (.list (cs.map PyData.int)) ≤ 64 := by
    simp only [PyData.depth]; omega
  simp [SeqAt.shaped, PyData.canLay0, h1, h3]
theorem Spring.put1 {H : Hp} {st l : Addr} {cs : List Int} {r c x y : Int} (S : Spring H st l cs r c x) (h : 0 ≤ y) :
    Spring (upd H st (.lst [.ref l, .int y, .int c, .int x])) st l cs y c x :=
  ⟨S.ne, upd_same, by rw [upd_ne S.ne]; exact S.l, h, S.c0, S.x0, S.x1⟩
theorem Spring.put3 {H : Hp} {st l : Addr} {cs : List Int} {r c x y : Int} (S : Spring H st l cs r c x) (h : 0 ≤ y) (h1 : y < 2147483648) :
    Spring (upd H st (.lst [.ref l, .int r, .int c, .int y])) st l cs r c y :=
  ⟨S.ne, upd_same, by rw [upd_ne S.ne]; exact S.l, S.r0, S.c0, h, h1⟩
section
variable {P : Program} {w : World} {K : PySem.W.Frag} {mg : Str → Option Value} {base : Heap} {f : Addr} {fd : FuncData}
/-- one draw: a number from 0 to m - 1; whatever else is tracked stays -/
def spDraw : Sp := fun vs H Q _ => ∃ (st l : Addr) (m : Int) (cs : List Int) (r c x : Int), vs = [.ref st, .int m] ∧ Spring H st l cs r c x ∧
  0 < m ∧ m < 1000 ∧ c < 1000 ∧ ∀ (H' : Hp) (d : Int) (cs' : List Int) (r' x' : Int), 0 ≤ d → d < m → Spring H' st l cs' r' (c + 1) x' → Kp [st, l] H H' →
    Q (.int d) H'
abbrev nDraw : List Str := ["_law_stream", "_law_many", "_law_cell", "_law_digit", "_law_mixed_here"]
theorem scDraw : FnScope nDraw ["_law_stream", "_law_many"] (defScope (top 56)) :=
  ⟨rfl, rfl, rfl, by decide +kernel, rfl, by decide +kernel, by decide +kernel⟩
theorem ok_draw (F : FnP K "_law_draw" 56 f fd) (G : Glb mg) : FnOk P w K mg base CX0 1 f fd ["_law_stream", "_law_many"] spDraw := by
  refine F.ok scDraw (fun vs H Q E h => ?_) (fun cdv A outer s H vs Q E hr h => ?_)
  · obtain ⟨st, l, m, cs, r, c, x, rfl, _⟩ := h
    rfl
  · obtain ⟨st, l, m, cs, r, c, x, rfl, S, m0, m1, c1, k⟩ := h
    refine ⟨_, PSs.nox (pss_cons (ps_asg (pe_op op_add (pe_ix ix_list (pv 0) pe_int (fun _ _ => rfl)) pe_int) (pg_sub (pv 0) pe_int set_list))
      (pss_cons (ps_while PassesOwn.never
          (PW.pt (pw_and (pt_cmpR op_eq (pe_ix ix_list (pv 0) pe_int (fun _ _ => rfl)) pe_int (nomark _))
            (pw_and1 (pt_cmpR (op_neD hr.units) (pe_ix ix_list (pv 0) pe_int (fun _ _ => rfl)) (pe_lst pa_nil) (nomark _)))))
          (pss_cons (ps_set (i := 2) scDraw.nd rfl (Or.inl rfl) (pe_bm PySem.F.plainAttrs_list PySem.F.slot_list_pop PySem.F.type_list_pop mt_popAt
              (pe_ix ix_list (pv 0) pe_int (fun _ _ => rfl)) (pa_cons pe_int pa_nil)))
          (pss_cons (ps_asg (pe_op op_mod (pe_callTy call_int1 (by rfl) G.int (by decide +kernel)
                (pa_cons (pe_op op_add (pe_op op_add (pe_op op_mul (pe_ix ix_list (pv 0) pe_int (fun _ _ => rfl)) pe_int) (pv 2)) pe_int) pa_nil)) pe_int)
              (pg_sub (pv 0) pe_int set_list))
            (pss_one (ps_asg (pe_ifExp (pt_cmpR op_ge (pv 2) (pe_op op_pow pe_int pe_int) (nomark _)) (pv 2) pe_int) (pg_sub (pv 0) pe_int set_list))))))
      (pss_cons (ps_if (pt_cmpR op_gt (pe_ix ix_list (pv 0) pe_int (fun _ _ => rfl)) pe_int (nomark _))
          (pss_cons (ps_set (i := 3) scDraw.nd rfl (Or.inl rfl) (pe_op op_mod (pe_callTy call_int1 (by rfl) G.int (by decide +kernel)
              (pa_cons (pe_ix ix_list (pv 0) pe_int (fun _ _ => rfl)) pa_nil)) (pv 1)))
          (pss_cons (ps_asg (pe_op op_fdiv (pe_ix ix_list (pv 0) pe_int (fun _ _ => rfl)) (pv 1)) (pg_sub (pv 0) pe_int set_list))
            (pss_one (ps_ret (pv 3))))) pss_nil)
      (pss_cons (ps_set (i := 4) scDraw.nd rfl (Or.inl rfl) (pe_op op_mod (pe_callTy call_int1 (by rfl) G.int (by decide +kernel)
          (pa_cons (pe_op op_pow (pe_op op_add (pe_op op_add (pe_ix ix_list (pv 0) pe_int (fun _ _ => rfl))
            (pe_op op_mul pe_int (pe_ix ix_list (pv 0) pe_int (fun _ _ => rfl)))) pe_int) pe_int) pa_nil)) pe_int))
      (pss_one (ps_ret (pe_op op_mod (pe_op op_mod (pe_callTy call_int1 (by rfl) G.int (by decide +kernel)
          (pa_cons (pe_op op_pow (pe_op op_add (pe_op op_add (pe_op op_mul (pv 4) pe_int)
            (pe_op op_mul pe_int (pe_ix ix_list (pv 0) pe_int (fun _ _ => rfl)))) pe_int) pe_int) pa_nil)) pe_int) (pv 1)))))))), ?_⟩
    -- _law_stream[2] = _law_stream[2] + 1
    refine ⟨_, rfl, st, _, _, _, rfl, rfl, SqL.of S.s, rfl, _, _, rfl, rfl, _, rfl, st, _, _, 2, rfl, rfl, S.s, rfl, ?_⟩
    have S1 : Spring (upd H st (.lst [.ref l, .int r, .int (c + 1), .int x])) st l cs r (c + 1) x :=
      ⟨S.ne, upd_same, by rw [upd_ne S.ne]; exact S.l, S.r0, by have := S.c0; omega, S.x0, S.x1⟩
    have K1 : Kp [st, l] H (upd H st (.lst [.ref l, .int r, .int (c + 1), .int x])) := Kp.put (by simp)
    -- the while
    refine ⟨fun n σ H' => ∃ cs' r' x' v, σ = [some (.ref st), some (.int m), v, none, none] ∧ Spring H' st l cs' r' (c + 1) x' ∧
      n = cs'.length ∧ Kp [st, l] H H', ⟨cs.length, cs, r, x, none, rfl, S1, rfl, K1⟩, ?_⟩
    rintro n σ H' ⟨cs', r', x', v, rfl, S2, rfl, K2⟩
    refine ⟨_, rfl, st, _, _, _, rfl, rfl, SqL.of S2.s, rfl, rfl, _, rfl, ?_⟩
    have b0 : (0 : Int) ≤ r' := S2.r0
    have b1 : (0 : Int) ≤ c := S.c0
    have b2 : (0 : Int) ≤ x' := S2.x0
    have b3 : x' < 2147483648 := S2.x1
    by_cases hr0 : r' = 0
    · subst hr0
      refine iteT ?_
      -- _law_stream[0] != []
      refine ⟨_, rfl, st, _, _, _, rfl, rfl, SqL.of S2.s, rfl, Nat.zero_le _, fun e he => ?_⟩
      have nes : e ≠ st := fun z => by rw [z, S2.s] at he; cases he
      have nel : e ≠ l := fun z => by rw [z, S2.l] at he; cases he
      have S3 : Spring (upd H' e (.lst [])) st l cs' 0 (c + 1) x' :=
        ⟨S2.ne, by rw [upd_ne (Ne.symm nes)]; exact S2.s, by rw [upd_ne (Ne.symm nel)]; exact S2.l, S2.r0, S2.c0, S2.x0, S2.x1⟩
      have K3 : Kp [st, l] H (upd H' e (.lst [])) := K2.trans (Kp.new he)
      refine ⟨.list (cs'.map PyData.int), .list [], .lst (SqL.of S3.l) (dpInts cs'), .lst (SqL.of upd_same) .nil, shInts cs', by decide +kernel, _, rfl, ?_⟩
      cases cs' with
      | cons z zs =>
        have e0 : (!PyData.eqv (.list ((z :: zs).map PyData.int)) (.list [])) = true := by
          simp [PyData.eqv, PyData.eqvAll]
        rw [e0]
        refine iteT ⟨fun σ' H4 => ∃ cs' r' x' v, σ' = [some (.ref st), some (.int m), v, none, none] ∧ Spring H4 st l cs' r' (c + 1) x' ∧
          cs'.length = zs.length ∧ Kp [st, l] H H4, ?_, ?_⟩
        · rintro σ' H4 ⟨cs2, r2, x2, v2, e1, e2, e3, e4⟩
          exact ⟨_, by rw [e3]; simp, cs2, r2, x2, v2, e1, e2, rfl, e4⟩
        · -- the cell is taken
          refine ⟨_, rfl, st, _, _, _, rfl, rfl, SqL.of S3.s, rfl, .inl ⟨rfl, _, SqL.of S3.l⟩, l, _, 0, 0, V.int z, rfl, rfl, S3.l, by decide, by decide, by simp [seqIndex?], rfl, ?_⟩
          have S4 : Spring (upd (upd H' e (.lst [])) l (.lst (((z :: zs).map V.int).eraseIdx 0))) st l zs 0 (c + 1) x' :=
            ⟨S3.ne, by rw [upd_ne (Ne.symm S3.ne)]; exact S3.s, by rw [upd_same]; rfl, S3.r0, S3.c0, S3.x0, S3.x1⟩
          have K4 : Kp [st, l] H (upd (upd H' e (.lst [])) l (.lst (((z :: zs).map V.int).eraseIdx 0))) := K3.trans (Kp.put (by simp))
          -- it is mixed in
          refine ⟨_, rfl, st, _, _, _, rfl, rfl, SqL.of S4.s, rfl, _, _, rfl, rfl, .inl ⟨by omega, by omega⟩, _, rfl, _, _, rfl, rfl, _, _, rfl, rfl, .inl ⟨_, rfl, ?_⟩⟩
          refine ⟨_, _, rfl, rfl, (show (0 : Int) < 2147483647 by decide), _, rfl, st, _, _, 3, rfl, rfl, S4.s, rfl, ?_⟩
          have S5 := S4.put3 (y := (x' * 8191 + z + 3) % 2147483647) (Int.emod_nonneg _ (by decide)) (Int.lt_trans (Int.emod_lt_of_pos _ (by decide)) (by decide))
          have K5 := K4.trans (Kp.put (S := [st, l]) (o := .lst [.ref l, .int 0, .int (c + 1), .int ((x' * 8191 + z + 3) % 2147483647)]) (a := st) (by simp))
          -- what is left of it
          refine ⟨_, rfl, _, _, rfl, rfl, ⟨by decide, by decide, by decide⟩, _, _, rfl, rfl, _, rfl, ?_⟩
          refine ite2 (fun hz => ?_) fun _ => ?_
          · refine ⟨_, rfl, _, rfl, st, _, _, 1, rfl, rfl, S5.s, rfl, ?_⟩
            have hz' : (10 : Int) ^ (18 : Int).toNat ≤ z := of_decide_eq_true hz
            have hz2 : (0 : Int) ≤ z := Int.le_trans (by decide) hz'
            exact ⟨zs, z, _, _, rfl, S5.put1 hz2, rfl, K5.trans (Kp.put (by simp))⟩
          · refine ⟨_, rfl, st, _, _, 1, rfl, rfl, S5.s, rfl, ?_⟩
            exact ⟨zs, 0, _, _, rfl, S5.put1 (Int.le_refl 0), rfl, K5.trans (Kp.put (by simp))⟩
      | nil =>
        have e0 : (!PyData.eqv (.list (([] : List Int).map PyData.int)) (.list [])) = false := by
          simp [PyData.eqv, PyData.eqvAll]
        rw [e0]
        refine iteF ?_
        -- nothing is left: the mixed draw
        refine ⟨_, rfl, st, _, _, _, rfl, rfl, SqL.of S3.s, rfl, _, _, rfl, rfl, _, rfl, ?_⟩
        refine iteF ?_
        refine ⟨_, rfl, st, _, _, _, rfl, rfl, SqL.of S3.s, rfl, _, rfl, st, _, _, _, rfl, rfl, SqL.of S3.s, rfl, _, _, rfl, rfl,
          .inl ⟨by decide, by decide⟩, _, _, rfl, rfl, _, _, rfl, rfl, _, _, rfl, rfl, ⟨by decide, by decide, by omega⟩, .inl ⟨_, rfl, ?_⟩⟩
        refine ⟨_, _, rfl, rfl, (show (0 : Int) < 2147483629 by decide), ?_⟩
        have y0 : (0 : Int) ≤ (x' + 7919 * (c + 1) + 104729) ^ (5 : Int).toNat % 2147483629 := Int.emod_nonneg _ (by decide)
        have y1 : (x' + 7919 * (c + 1) + 104729) ^ (5 : Int).toNat % 2147483629 < 2147483629 := Int.emod_lt_of_pos _ (by decide)
        generalize (x' + 7919 * (c + 1) + 104729) ^ (5 : Int).toNat % 2147483629 = y at y0 y1 ⊢
        refine ⟨_, rfl, _, _, rfl, rfl, .inl ⟨by omega, by omega⟩, _, rfl, st, _, _, _, rfl, rfl, SqL.of S3.s, rfl, _, _, rfl, rfl,
          .inl ⟨by decide, by decide⟩, _, _, rfl, rfl, _, _, rfl, rfl, _, _, rfl, rfl, ⟨by decide, by decide, by omega⟩, .inl ⟨_, rfl, ?_⟩⟩
        refine ⟨_, _, rfl, rfl, (show (0 : Int) < 1000000007 by decide), _, rfl, _, _, rfl, rfl, m0, ?_⟩
        exact k _ _ _ _ _ (Int.emod_nonneg _ (by omega)) (Int.emod_lt_of_pos _ m0) S3 K3
    · have e : decide (V.int r' = V.int 0) = false := by simp [hr0]
      rw [e]
      refine iteF (iteF ?_)
      -- a digit of a great cell
      refine ⟨_, rfl, st, _, _, _, rfl, rfl, SqL.of S2.s, rfl, _, _, rfl, rfl, _, rfl, ?_⟩
      have e2 : decide ((0 : Int) < r') = true := by simp; omega
      rw [e2]
      refine iteT ?_
      refine ⟨_, rfl, st, _, _, _, rfl, rfl, SqL.of S2.s, rfl, .inl ⟨_, rfl, ?_⟩⟩
      refine ⟨_, rfl, _, _, rfl, rfl, m0, ?_⟩
      refine ⟨_, rfl, st, _, _, _, rfl, rfl, SqL.of S2.s, rfl, _, rfl, _, _, rfl, rfl, ⟨m0, by omega⟩, ?_⟩
      refine ⟨_, rfl, st, _, _, 1, rfl, rfl, S2.s, rfl, ?_⟩
      refine ⟨_, rfl, ?_⟩
      have z : Spring (upd H' st (.lst [.ref l, .int (r' / m), .int (c + 1), .int x'])) st l cs' (r' / m) (c + 1) x' :=
        ⟨S2.ne, upd_same, by rw [upd_ne S2.ne]; exact S2.l, Int.ediv_nonneg S2.r0 (by omega), S2.c0, S2.x0, S2.x1⟩
      exact k _ _ _ _ _ (Int.emod_nonneg _ (by omega)) (Int.emod_lt_of_pos _ m0) z (K2.trans (Kp.put (by simp)))
end
end K0
set_option maxHeartbeats 0
namespace K0
open PySem PySem.Spec PyProof.Rows L2 LamX
theorem permErase : ∀ (xs : List V) (i : Nat) (h : i < xs.length), (xs[i] :: xs.eraseIdx i).Perm xs
  | x :: xs, 0, _ => .refl _
  | x :: xs, i + 1, h => (List.Perm.swap _ _ _).trans ((permErase xs i (Nat.lt_of_succ_lt_succ h)).cons x)
section
variable {P : Program} {w : World} {K : PySem.W.Frag} {mg : Str → Option Value} {base : Heap} {f fD : Addr} {fd fdD : FuncData}
/-- len of a list, of a tuple -/
def rLn (K : PySem.W.Frag) : List V → Hp → VK → Prop := fun xs H Q => ∃ p ys, xs = [.ref p] ∧ (SqL K H p ys ∨ SqT K H p ys) ∧ Q (.int ys.length) H
/-- the things in a drawn order -/
def spMixed (K : PySem.W.Frag) : Sp := fun vs H Q _ => ∃ (st l a : Addr) (xs : List V) (cs : List Int) (r c x : Int), vs = [.ref st, .ref a] ∧
  Spring H st l cs r c x ∧ SqL K H a xs ∧ xs.length ≤ 20 ∧ c + xs.length < 1000 ∧
  ∀ (H' : Hp) (p : Addr) (ys : List V) (cs' : List Int) (r' x' : Int), ys.Perm xs → Spring H' st l cs' r' (c + xs.length) x' → H p = none →
    H' p = some (.lst ys) → Kp [st, l] H H' → Q (.ref p) H'
abbrev nMixed : List Str := ["_law_stream", "_law_some", "_law_left", "_law_k"]
theorem scMixed : FnScope nMixed ["_law_stream", "_law_some"] (defScope (top 57)) :=
  ⟨rfl, rfl, rfl, by decide +kernel, rfl, by decide +kernel, by decide +kernel⟩
theorem ok_mixed (F : FnP K "_law_mixed" 57 f fd) (G : Glb mg) (FD : FnP K "_law_draw" 56 fD fdD) (gD : mg "_law_draw" = some (.ref fD)) :
    FnOk P w K mg base CX0 2 f fd ["_law_stream", "_law_some"] (spMixed K) := by
  have GD : FnOk P w K mg base CX0 1 fD fdD ["_law_stream", "_law_many"] spDraw := ok_draw FD G
  have bD : Binds K fdD ["_law_stream", "_law_many"] [] := FD.bindsN fun _ _ _ _ _ _ us hl => match us, hl with | [_, _], _ => rfl
  refine F.ok scMixed (fun vs H Q E h => ?_) (fun cdv A outer s H vs Q E hr h => ?_)
  · obtain ⟨st, l, a, xs, cs, r, c, x, rfl, _⟩ := h
    rfl
  · obtain ⟨st, l, a, xs, cs, r, c, x, rfl, S, hS, lx, lc, k⟩ := h
    refine ⟨_, PSs.nox (pss_cons (ps_set (i := 2) scMixed.nd rfl (Or.inr rfl) (pe_callTy call_list_of (by rfl) G.list (by decide +kernel) (pa_cons (pv 1) pa_nil)))
      (pss_one (ps_ret (pe_lc (own := [("_law_k", 3)]) (g := gName 3) (tt := tYes)
        (te := tBM K "list" rPopAt (tVar 2) (tCons (tCall spDraw [] E0 (tCons (tVar 0) (tCons (tCB (rLn K) (tCons (tVar 2) tNil)) tNil))) tNil)) rfl scMixed.nd
        (pi_range1 rfl G.range (pa_cons (pe_callB call_len_seq (by rfl) G.len PySem.boot_len (pa_cons (pv 2) pa_nil)) pa_nil))
        (blkOk_by (N := nMixed) (sc := defScope (top 57)) (by decide +kernel))
        (fun _ _ _ _ _ => pg_name (i := 3) scMixed.nd rfl (Or.inl rfl)) (fun _ _ _ _ _ => pts_nil)
        (fun _ _ _ _ _ => by
          refine pe_bm PySem.F.plainAttrs_list PySem.F.slot_list_pop PySem.F.type_list_pop mt_popAt (pv 2) (pa_cons ?_ pa_nil)
          refine pe_call GD hr rfl gD FD.kp bD .nil pass0 (pa_cons (pv 0) (pa_cons ?_ pa_nil))
          exact pe_callB call_len_seq (by rfl) G.len PySem.boot_len (pa_cons (pv 2) pa_nil)))))), ?_⟩
    refine ⟨_, rfl, a, xs, rfl, .inl hS, fun lf hl => ?_⟩
    have nls : lf ≠ st := fun z => by rw [z, S.s] at hl; cases hl
    have nll : lf ≠ l := fun z => by rw [z, S.l] at hl; cases hl
    have S1 : Spring (upd H lf (.lst xs)) st l cs r c x :=
      ⟨S.ne, by rw [upd_ne (Ne.symm nls)]; exact S.s, by rw [upd_ne (Ne.symm nll)]; exact S.l, S.r0, S.c0, S.x0, S.x1⟩
    refine ⟨_, rfl, lf, xs, rfl, .inl (SqL.of upd_same), _, rfl, by omega, by omega, fun D hD => ?_⟩
    have nDf : D ≠ lf := fun z => by rw [z, upd_same] at hD; cases hD
    rw [upd_ne nDf] at hD
    have nDs : D ≠ st := fun z => by rw [z, S.s] at hD; cases hD
    have nDl : D ≠ l := fun z => by rw [z, S.l] at hD; cases hD
    refine lc_range (lo := 0) (n := xs.length) (fun i H' => ∃ (acc left : List V) (cs' : List Int) (r' x' : Int), H' D = some (.lst acc) ∧ acc.length = i ∧
      H' lf = some (.lst left) ∧ left.length = xs.length - i ∧ (acc ++ left).Perm xs ∧ Spring H' st l cs' r' (c + i) x' ∧ Kp [lf, D, st, l] H H')
      ⟨[], xs, cs, r, x, upd_same, rfl, by rw [upd_ne (Ne.symm nDf), upd_same], rfl, .refl _, ?_, ?_⟩ ?_ ?_
    · exact ⟨S1.ne, by rw [upd_ne (Ne.symm nDs)]; simpa using S1.s, by rw [upd_ne (Ne.symm nDl)]; exact S1.l, S.r0, by have := S.c0; omega, S.x0, S.x1⟩
    · exact (Kp.new hl).trans (Kp.new (by rw [upd_ne nDf]; exact hD))
    · rintro i H' hi ⟨acc, left, cs', r', x', h1, h2, h3, h4, h5, h6, h7⟩
      have c0 : (0 : Int) ≤ c := S.c0
      refine ⟨rfl, ?_⟩
      unfold tYes; show (if true = true then _ else _); rw [if_pos rfl]
      refine ⟨_, rfl, .inl ⟨rfl, _, SqL.of h3⟩, _, rfl, _, rfl, lf, left, rfl, .inl (SqL.of h3), ?_⟩
      refine ⟨st, l, _, cs', r', _, x', rfl, h6, by omega, by omega, by omega, fun H4 d cs2 r2 x2 d0 d1 S4 K4 => ?_⟩
      have nm1 : lf ∉ [st, l] := by simp [nls, nll]
      have nm2 : D ∉ [st, l] := by simp [nDs, nDl]
      have e3 := K4.lst h3 nm1
      have e1 := K4.lst h1 nm2
      have hk : d.toNat < left.length := by omega
      refine ⟨lf, left, d, d.toNat, left[d.toNat], rfl, rfl, e3, by omega, by omega, ?_, List.getElem?_eq_getElem hk, ?_⟩
      · have z : ¬ d < 0 := by omega
        simp [seqIndex?, z, d0, d1]
      refine ⟨acc, by rw [upd_ne nDf]; exact e1, Nat.lt_of_lt_of_le (show acc.length < 21 by omega) (by decide), acc ++ [left[d.toNat]], left.eraseIdx d.toNat, cs2, r2, x2, upd_same, by simp [h2],
        by rw [upd_ne (Ne.symm nDf), upd_same], ?_, ?_, ?_, ?_⟩
      · rw [List.length_eraseIdx_of_lt hk]; omega
      · rw [List.append_assoc]
        exact (List.Perm.append_left acc (permErase _ _ hk)).trans h5
      · refine ⟨S4.ne, ?_, ?_, S4.r0, by omega, S4.x0, S4.x1⟩
        · rw [upd_ne (Ne.symm nDs), upd_ne (Ne.symm nls), S4.s]
          simp; omega
        · rw [upd_ne (Ne.symm nDl), upd_ne (Ne.symm nll)]
          exact S4.l
      · exact ((h7.trans (K4.mono (by simp))).trans (Kp.put (by simp))).trans (Kp.put (by simp))
    · rintro H' ⟨acc, left, cs', r', x', h1, h2, h3, h4, h5, h6, h7⟩
      have el : left = [] := List.eq_nil_of_length_eq_zero (by omega)
      rw [el, List.append_nil] at h5
      exact k H' D acc cs' r' x' h5 h6 hD h1 ((h7.drop hl).drop hD)
end
end K0
set_option maxHeartbeats 0
namespace K0
open PySem PySem.Spec PyProof.Rows L2 LamX
/-- an exception at a of the class C keeps what fs says -/
def HasO (H : Hp) (a C : Addr) (fs : List (Str × V)) : Prop := ∃ dx, H a = some (exo a C (some dx)) ∧ H dx = some (exd dx fs)
/-- the one parameter's object is kept -/
def spI1 (K : PySem.W.Frag) (f : Str) : Sp := fun vs H Q _ => ∃ (a C : Addr) (v : V), vs = [.ref a, v] ∧ OexC K C ∧ PySem.W.findIn K (.ref C) f = some none ∧
  H a = some (exo a C none) ∧ ∀ dx, H dx = none → dx ≠ a → Q .non (upd (upd H dx (exd dx [(f, v)])) a (exo a C (some dx)))
def spI2 (K : PySem.W.Frag) (f g : Str) : Sp := fun vs H Q _ => ∃ (a C : Addr) (v u : V), vs = [.ref a, v, u] ∧ OexC K C ∧ PySem.W.findIn K (.ref C) f = some none ∧ PySem.W.findIn K (.ref C) g = some none ∧
  H a = some (exo a C none) ∧ ∀ dx, H dx = none → dx ≠ a → Q .non (upd (upd (upd H dx (exd dx [(f, v)])) a (exo a C (some dx))) dx (exd dx [(g, u), (f, v)]))
section
variable {P : Program} {w : World} {K : PySem.W.Frag} {mg : Str → Option Value} {base : Heap} {fI : Addr} {fd : FuncData} {x q f g : Str}
  {params : Arguments} {body : List Stmt} {scope : Scope}
theorem ok_init1 {p1 p2 p3 p4 : Pos} (F : FunD K x q params body scope [] [] fI fd) (S : FnScope ["self", f] ["self", f] scope)
    (hv : Vis scope f) (hs : Vis scope "self") (hd1 : (f == ("__debug__" : Str)) = false) (hd2 : (f == ("__classdict__" : Str)) = false)
    (hb : body = [.Assign [.Attribute (.Name "self" p1) f p2] (.Name f p3) p4]) : FnOk P w K mg base CX0 1 fI fd ["self", f] (spI1 K f) := by
  refine F.ok S (fun vs H Q E h => ?_) (fun cdv A outer s H vs Q E hr h => ?_)
  · obtain ⟨a, C, v, rfl, _⟩ := h
    rfl
  · obtain ⟨a, C, v, rfl, T, hno, ha, k⟩ := h
    rw [hb]
    refine ⟨_, pss_one (ps_ost (pe_var (i := 0) rfl hs) (pe_var (i := 1) rfl hv hd1 hd2)), ?_⟩
    exact ⟨v, rfl, .ref a, rfl, a, C, rfl, T, hno, .inl ⟨ha, fun dx n ne => k dx n ne⟩⟩
theorem ok_init2 {p1 p2 p3 p4 p5 p6 p7 p8 : Pos} (F : FunD K x q params body scope [] [] fI fd) (S : FnScope ["self", f, g] ["self", f, g] scope)
    (hv : Vis scope f) (hw : Vis scope g) (hs : Vis scope "self") (hd1 : (f == ("__debug__" : Str)) = false) (hd2 : (f == ("__classdict__" : Str)) = false)
    (he1 : (g == ("__debug__" : Str)) = false) (he2 : (g == ("__classdict__" : Str)) = false)
    (hb : body = [.Assign [.Attribute (.Name "self" p1) f p2] (.Name f p3) p4, .Assign [.Attribute (.Name "self" p5) g p6] (.Name g p7) p8]) :
    FnOk P w K mg base CX0 1 fI fd ["self", f, g] (spI2 K f g) := by
  refine F.ok S (fun vs H Q E h => ?_) (fun cdv A outer s H vs Q E hr h => ?_)
  · obtain ⟨a, C, v, u, rfl, _⟩ := h
    rfl
  · obtain ⟨a, C, v, u, rfl, T, hno, hno2, ha, k⟩ := h
    rw [hb]
    refine ⟨_, pss_cons (ps_ost (pe_var (i := 0) rfl hs) (pe_var (i := 1) rfl hv hd1 hd2))
      (pss_one (ps_ost (pe_var (i := 0) rfl hs) (pe_var (i := 2) rfl hw he1 he2))), ?_⟩
    refine ⟨v, rfl, .ref a, rfl, a, C, rfl, T, hno, .inl ⟨ha, fun dx n ne => ?_⟩⟩
    exact ⟨u, rfl, .ref a, rfl, a, C, rfl, T, hno2, .inr ⟨dx, [(f, v)], upd_same, by rw [upd_ne ne, upd_same], (show 1 ≤ 900 by decide), k dx n ne⟩⟩
/-- bound by place, and by names -/
theorem kbn_of {ps ks : List Str} {n : Nat} {G : List Value → List Value → List Value} {gV : List V → List V → List V}
    (F : FunD K x q params body scope [] [] fI fd)
    (h : ∀ (kV doc pm : Value) (an : Option Addr) (cdv ct : Value) (us ws : List Value), us.length = n → ws.length = ks.length →
      bindArgs (PySem.W.fnOf x q params body scope .none kV doc pm an cdv ct) ⟨us, ks.zip ws⟩ = pure (ps.zip (G us ws)))
    (rel : ∀ {vs : List V} {us : List Value} {zs : List V} {ws : List Value}, Vals vs us → Vals zs ws → Vals (gV vs zs) (G us ws)) : KBn K fd ps n ks G gV := by
  obtain ⟨oc, od, dV, kV, doc, pm, an, cdv, ct, osl, rfl, lk, hcd, hD, hK⟩ := F.ex
  rcases hD with ⟨_, rfl⟩ | ⟨e, _⟩
  · exact ⟨fun s us ws _ l1 l2 => .of_eq (h kV doc pm an cdv ct us ws l1 l2), rel⟩
  · exact absurd rfl e
/-- test: one row -/
theorem tst1 (F : FunD K "__init__" "BadAnswers.__init__" (defArgs (inner 2)) (defBody (inner 2)) (defScope (inner 2)) [] [] fI fd) :
    FnOk P w K mg base CX0 1 fI fd ["self", "index"] (spI1 K "index") ∧ KBn K fd ["self", "index"] 2 [] (fun us _ => us) (fun vs _ => vs) ∧
    KBn K fd ["self", "index"] 1 ["index"] (fun us ws => us ++ ws) (fun us ws => us ++ ws) :=
  ⟨ok_init1 F ⟨rfl, rfl, rfl, by decide +kernel, rfl, by decide +kernel, by decide +kernel⟩ (Or.inl rfl) (Or.inl rfl) (by decide) (by decide) rfl,
   kbn_of F (fun _ _ _ _ _ _ us ws hl h0 => match us, ws, hl, h0 with | [_, _], [], _, _ => rfl) fun a _ => a,
   kbn_of F (fun _ _ _ _ _ _ us ws hl h0 => match us, ws, hl, h0 with | [_], [_], _, _ => rfl) fun a b => a.append b⟩
theorem tst2 (F : FunD K "__init__" "BadText.__init__" (defArgs (inner 30)) (defBody (inner 30)) (defScope (inner 30)) [] [] fI fd) :
    FnOk P w K mg base CX0 1 fI fd ["self", "line", "sign"] (spI2 K "line" "sign") ∧ KBn K fd ["self", "line", "sign"] 3 [] (fun us _ => us) (fun vs _ => vs) ∧
    KBn K fd ["self", "line", "sign"] 1 ["sign", "line"] (fun us ws => us ++ ws.reverse) (fun us ws => us ++ ws.reverse) :=
  ⟨ok_init2 F ⟨rfl, rfl, rfl, by decide +kernel, rfl, by decide +kernel, by decide +kernel⟩ (Or.inl rfl) (Or.inl rfl) (Or.inl rfl) (by decide) (by decide) (by decide) (by decide) rfl,
   kbn_of F (fun _ _ _ _ _ _ us ws hl h0 => match us, ws, hl, h0 with | [_, _, _], [], _, _ => rfl) fun a _ => a,
   kbn_of F (fun _ _ _ _ _ _ us ws hl h0 => match us, ws, hl, h0 with | [_], [_, _], _, _ => rfl) fun a b => a.append b.reverse⟩
end
end K0
set_option maxHeartbeats 0
namespace K0
open PySem PySem.Spec PyProof.Rows L2 LamX
theorem ps_imp {X : Cx} {st : Stmt} {t t' : TS} (h : PS X st t) (i : ∀ D σ H, t' D σ H → t D σ H) : PS X st t' :=
  ⟨fun pins s σ H D I q => h.run pins s σ H D I (i D σ H q)⟩
/-- an own error at a, of the class C, keeps fs -/
def HasE (H : Hp) (a C : Addr) (fs : List (Str × V)) : Prop := ∃ d, H a = some (exo a C d) ∧ (∀ dx, d = some dx → H dx = some (exd dx fs)) ∧ (d = none → fs = [])
/-- the lambda's reading: what stands under these names -/
def tbOf (K : PySem.W.Frag) (ps : List Str) : TE := tLst (ps.foldr (fun f t => tCons (tOexF K f (tVar 0)) t) tNil)
/-- one of the tuples: made by place, made by names, the look, what is due -/
def Made (P : Program) (w : World) (K : PySem.W.Frag) (mg : Str → Option Value) (base : Heap) (H : Hp) (fr : Addr → Prop) (C : Addr) (ps : List Str) (vs : List V) (t : V) : Prop :=
  ∃ (tp a b l d c : Addr) (q : Str) (params : Arguments) (body : Expr) (scope : Scope) (fa fb : List (Str × V)),
    t = .ref tp ∧ H tp = some (.tup [.ref a, .ref b, .ref l, .ref d]) ∧ HasE H a C fa ∧ HasE H b C fb ∧
    ps.map (fun f => List.lookup f fa) = vs.map some ∧ ps.map (fun f => List.lookup f fb) = vs.map some ∧
    H l = some (LamO l q params body scope c) ∧ H c = some (CodeO c q) ∧ LamD P w K mg base 0 params body scope ["_law_e"] ["_law_e"] (tbOf K ps) ∧
    H d = some (.lst vs) ∧ fr d
/-- what is known of an error's class without parameters, with one, with two -/
structure Cls0 (K : PySem.W.Frag) (mg : Str → Option Value) (nm : Str) (C : Addr) : Prop where
  E : ErrK K C
  gm : mg nm = some (.ref C)
  ex : PySem.W.excIn K C He.veBase "ValueError.__new__" = true
structure ClsA (K : PySem.W.Frag) (mg : Str → Option Value) (nm : Str) (ps : List Str) (C fI : Addr) : Prop where
  E : ErrK K C
  gm : mg nm = some (.ref C)
  iC : PySem.W.findIn K (.ref C) "__init__" = some (some (.ref fI))
  tI : PySem.W.typeIn K (.ref fI) = some (.type "function")
  no : ∀ f ∈ ps, PySem.W.findIn K (.ref C) f = some none
structure Cls1 (P : Program) (w : World) (K : PySem.W.Frag) (mg : Str → Option Value) (base : Heap) (nm f : Str) (C : Addr) (fI : Addr) (fd : FuncData) : Prop where
  A : ClsA K mg nm [f] C fI
  F : FnOk P w K mg base CX0 1 fI fd ["self", f] (spI1 K f)
  kp : KBn K fd ["self", f] 2 [] (fun us _ => us) (fun vs _ => vs)
  kk : KBn K fd ["self", f] 1 [f] (fun us ws => us ++ ws) (fun us ws => us ++ ws)
structure Cls2 (P : Program) (w : World) (K : PySem.W.Frag) (mg : Str → Option Value) (base : Heap) (nm f g : Str) (C : Addr) (fI : Addr) (fd : FuncData) : Prop where
  A : ClsA K mg nm [f, g] C fI
  F : FnOk P w K mg base CX0 1 fI fd ["self", f, g] (spI2 K f g)
  kp : KBn K fd ["self", f, g] 3 [] (fun us _ => us) (fun vs _ => vs)
  kk : KBn K fd ["self", f, g] 1 [g, f] (fun us ws => us ++ ws.reverse) (fun us ws => us ++ ws.reverse)
/-- one more of them is put in -/
def tApp (P : Program) (w : World) (K : PySem.W.Frag) (mg : Str → Option Value) (base : Heap) (T : List (Addr × Str)) (C : Addr) (ps : List Str) (n : Nat) : TS := fun D σ H =>
  ∃ (Dl : Addr) (acc vs : List V), σ[3]? = some (some (.ref Dl)) ∧ vs.length = n ∧ (∀ (i : Nat) (v : V), vs[i]? = some v → σ[i]? = some (some v)) ∧ H Dl = some (.lst acc) ∧ acc.length < 100 ∧ Tabs T H ∧
    ∀ H' t, KpN [Dl] H H' → Tabs T H' → H' Dl = some (.lst (acc ++ [t])) → Made P w K mg base H' (fun d => ∀ xs, H d ≠ some (.lst xs)) C ps vs t → D.nx σ H'
section
variable {P : Program} {w : World} {K : PySem.W.Frag} {mg : Str → Option Value} {base : Heap}
theorem pt (K : PySem.W.Frag) {T : String} {x : V} {H : Hp} (h : tyV K T x H) : tyV K T x H := h
/-- the lambda of one name -/
theorem lamD1 {params : Arguments} {scope : Scope} {f : Str} {p1 p2 p3 : Pos} (S : FnScope ["_law_e"] ["_law_e"] scope) (hv : Vis scope "_law_e")
    (hb : ∀ (q : Str) (pm cv ctv : Value) (us : List Value), us.length = 1 →
      bindArgs (PySem.W.kla_fn "<lambda>" q params (.List [.Attribute (.Name "_law_e" p1) f p2] p3) scope [] pm cv ctv) ⟨us, []⟩ = pure ((["_law_e"] : List Str).zip us)) :
    LamD P w K mg base 0 params (.List [.Attribute (.Name "_law_e" p1) f p2] p3) scope ["_law_e"] ["_law_e"] (tbOf K [f]) :=
  ⟨S, fun q pm cv ctv us h => hb q pm cv ctv us h, fun A outer s H g cd q E hr => pe_lst (pa_cons (pe_oexF (pe_var (i := 0) rfl hv)) pa_nil)⟩
theorem lamD2 {params : Arguments} {scope : Scope} {f g : Str} {p1 p2 p3 p4 p5 : Pos} (S : FnScope ["_law_e"] ["_law_e"] scope) (hv : Vis scope "_law_e")
    (hb : ∀ (q : Str) (pm cv ctv : Value) (us : List Value), us.length = 1 →
      bindArgs (PySem.W.kla_fn "<lambda>" q params (.List [.Attribute (.Name "_law_e" p1) f p2, .Attribute (.Name "_law_e" p4) g p5] p3) scope [] pm cv ctv) ⟨us, []⟩ = pure ((["_law_e"] : List Str).zip us)) :
    LamD P w K mg base 0 params (.List [.Attribute (.Name "_law_e" p1) f p2, .Attribute (.Name "_law_e" p4) g p5] p3) scope ["_law_e"] ["_law_e"] (tbOf K [f, g]) :=
  ⟨S, fun q pm cv ctv us h => hb q pm cv ctv us h, fun A outer s H g cd q E hr => pe_lst (pa_cons (pe_oexF (pe_var (i := 0) rfl hv)) (pa_cons (pe_oexF (pe_var (i := 0) rfl hv)) pa_nil))⟩
theorem lamD0 {params : Arguments} {scope : Scope} {p3 : Pos} (S : FnScope ["_law_e"] ["_law_e"] scope)
    (hb : ∀ (q : Str) (pm cv ctv : Value) (us : List Value), us.length = 1 →
      bindArgs (PySem.W.kla_fn "<lambda>" q params (.List [] p3) scope [] pm cv ctv) ⟨us, []⟩ = pure ((["_law_e"] : List Str).zip us)) :
    LamD P w K mg base 0 params (.List [] p3) scope ["_law_e"] ["_law_e"] (tbOf K []) :=
  ⟨S, fun q pm cv ctv us h => hb q pm cv ctv us h, fun A outer s H g cd q E hr => pe_lst pa_nil⟩
end
section
variable {X : Cx} {nm f g : Str} {C fI c PT : Addr} {fd : FuncData} {T : List (Addr × Str)} {params : Arguments} {body : Expr} {scope : Scope}
  {p1 p2 p3 p4 p5 p6 p7 p8 p9 p10 p11 p12 p13 p14 p15 p16 p17 p18 p19 p20 : Pos} {ctx : Nat}
theorem HasE.go {H H' : Hp} {a C : Addr} {fs : List (Str × V)} (e : HasE H a C fs) (k : ∀ b o, H b = some o → (∀ ps, o ≠ .tbl ps) → (∀ xs, o ≠ .lst xs) → H' b = some o) : HasE H' a C fs := by
  obtain ⟨d, h1, h2, h3⟩ := e
  exact ⟨d, k _ _ h1 (fun _ z => by cases z) (fun _ z => by cases z), fun dx z => k _ _ (h2 dx z) (fun _ z => by cases z) (fun _ z => by cases z), h3⟩
theorem Made.go {P : Program} {w : World} {K : PySem.W.Frag} {mg : Str → Option Value} {base : Heap} {H H' : Hp} {fr fr' : Addr → Prop} {C : Addr} {ps : List Str} {vs : List V} {t : V}
    (m : Made P w K mg base H fr C ps vs t) (k : ∀ b o, H b = some o → (∀ ps, o ≠ .tbl ps) → (∀ xs, o ≠ .lst xs) → H' b = some o)
    (kd : ∀ d, fr d → ∀ xs, H d = some (.lst xs) → H' d = some (.lst xs) ∧ fr' d) : Made P w K mg base H' fr' C ps vs t := by
  obtain ⟨tp, a, b, l, d, c, q, params, body, scope, fa, fb, rfl, h1, h2, h3, h4, h5, h6, h7, h8, h9, h10⟩ := m
  exact ⟨tp, a, b, l, d, c, q, params, body, scope, fa, fb, rfl, k _ _ h1 (fun _ z => by cases z) (fun _ z => by cases z), h2.go k, h3.go k, h4, h5,
    k _ _ h6 (fun _ z => by cases z) (fun _ z => by cases z), k _ _ h7 (fun _ z => by cases z) (fun _ z => by cases z), h8, (kd d h10 _ h9).1, (kd d h10 _ h9).2⟩
/-- an exception with its dict, new -/
def mk1 (H : Hp) (a C da : Addr) (fs : List (Str × V)) : Hp := upd (upd (upd H a (exo a C none)) da (exd da fs)) a (exo a C (some da))
theorem mk1_kp {H : Hp} {a C da : Addr} {fs : List (Str × V)} (na : H a = none) (nda : H da = none) : Kp [] H (mk1 H a C da fs) := fun b o e _ => by
  unfold mk1
  rw [upd_ne (ne_of_none e na), upd_ne (ne_of_none e nda), upd_ne (ne_of_none e na)]
  exact e
theorem mk1_has {H : Hp} {a C da : Addr} {fs : List (Str × V)} (ne : da ≠ a) : HasE (mk1 H a C da fs) a C fs :=
  ⟨some da, upd_same, fun dx z => by
    obtain rfl := Option.some.inj z
    unfold mk1
    rw [upd_ne ne, upd_same], fun z => by cases z⟩
theorem made_fin {P : Program} {w : World} {K : PySem.W.Frag} {mg : Str → Option Value} {base : Heap} {H H0 H1 : Hp} {Dl a b C l c d tp : Addr} {acc vs : List V} {ps : List Str} {q : Str} {params : Arguments} {body : Expr} {scope : Scope} {fa fb : List (Str × V)} {T : List (Addr × Str)}
    (hD : H Dl = some (.lst acc)) (k1 : Kp [] H H0) (ea : HasE H0 a C fa) (eb : HasE H0 b C fb) (la : ps.map (fun f => List.lookup f fa) = vs.map some) (lb : ps.map (fun f => List.lookup f fb) = vs.map some)
    (hE : ExtN H0 H1) (hT1 : Tabs T H1) (nl : H1 l = none) (hc : H1 c = some (CodeO c q)) (LD : LamD P w K mg base 0 params body scope ["_law_e"] ["_law_e"] (tbOf K ps))
    (nd : upd H1 l (LamO l q params body scope c) d = none) (ntp : upd (upd H1 l (LamO l q params body scope c)) d (.lst vs) tp = none) :
    (upd (upd (upd H1 l (LamO l q params body scope c)) d (.lst vs)) tp (.tup [.ref a, .ref b, .ref l, .ref d])) Dl = some (.lst acc) ∧
    KpN [Dl] H (upd (upd (upd (upd H1 l (LamO l q params body scope c)) d (.lst vs)) tp (.tup [.ref a, .ref b, .ref l, .ref d])) Dl (.lst (acc ++ [.ref tp]))) ∧
    Tabs T (upd (upd (upd (upd H1 l (LamO l q params body scope c)) d (.lst vs)) tp (.tup [.ref a, .ref b, .ref l, .ref d])) Dl (.lst (acc ++ [.ref tp]))) ∧
    Made P w K mg base (upd (upd (upd (upd H1 l (LamO l q params body scope c)) d (.lst vs)) tp (.tup [.ref a, .ref b, .ref l, .ref d])) Dl (.lst (acc ++ [.ref tp])))
      (fun d => ∀ xs, H d ≠ some (.lst xs)) C ps vs (.ref tp) := by
  have up : ∀ j o, H1 j = some o → (upd (upd (upd H1 l (LamO l q params body scope c)) d (.lst vs)) tp (.tup [.ref a, .ref b, .ref l, .ref d])) j = some o := fun j o e => by
    have e1 : upd H1 l (LamO l q params body scope c) j = some o := by rw [upd_ne (ne_of_none e nl)]; exact e
    have e2 : upd (upd H1 l (LamO l q params body scope c)) d (.lst vs) j = some o := by rw [upd_ne (ne_of_none e1 nd)]; exact e1
    rw [upd_ne (ne_of_none e2 ntp)]
    exact e2
  have d1 : H0 Dl = some (.lst acc) := k1 _ _ hD (by simp)
  have d2 : H1 Dl = some (.lst acc) := hE _ _ d1 (fun _ z => by cases z)
  have d3 := up _ _ d2
  have nlD : l ≠ Dl := fun z => by rw [z, d2] at nl; cases nl
  have l1 : upd H1 l (LamO l q params body scope c) Dl = some (.lst acc) := by rw [upd_ne (Ne.symm nlD)]; exact d2
  have ndD : d ≠ Dl := fun z => by rw [z, l1] at nd; cases nd
  have ndl : d ≠ l := fun z => by rw [z, upd_same] at nd; cases nd
  have l2 : upd (upd H1 l (LamO l q params body scope c)) d (.lst vs) Dl = some (.lst acc) := by rw [upd_ne (Ne.symm ndD)]; exact l1
  have ntD : tp ≠ Dl := fun z => by rw [z, l2] at ntp; cases ntp
  have ntd : tp ≠ d := fun z => by rw [z, upd_same] at ntp; cases ntp
  have ntl : tp ≠ l := fun z => by rw [z, upd_ne (Ne.symm ndl), upd_same] at ntp; cases ntp
  have go : ∀ j o, H0 j = some o → (∀ ps, o ≠ .tbl ps) → (∀ xs, o ≠ .lst xs) →
      (upd (upd (upd (upd H1 l (LamO l q params body scope c)) d (.lst vs)) tp (.tup [.ref a, .ref b, .ref l, .ref d])) Dl (.lst (acc ++ [.ref tp]))) j = some o := fun j o e t n => by
    have nb : j ≠ Dl := fun z => by rw [z, d1] at e; exact n _ (Option.some.inj e).symm
    rw [upd_ne nb]
    exact up _ _ (hE _ _ e t)
  refine ⟨d3, fun j o e z t => ?_, (Kp.put (S := [Dl]) (by simp)).tabs (fun x hx => by
      have := List.mem_singleton.mp hx
      rw [this]
      exact ⟨acc, d3⟩) (hT1.ext up), ?_⟩
  · rw [upd_ne (fun q => z (by simp [q]))]
    exact up _ _ (hE _ _ (k1 _ _ e (by simp)) t)
  · refine ⟨tp, a, b, l, d, c, q, params, body, scope, fa, fb, rfl, ?_, ea.go go, eb.go go, la, lb, ?_, ?_, LD, ?_, fun xs z => ?_⟩
    · rw [upd_ne ntD, upd_same]
    · rw [upd_ne nlD, upd_ne (Ne.symm ntl), upd_ne (Ne.symm ndl), upd_same]
    · have nc : c ≠ Dl := fun z => by
        rw [z, d2] at hc
        cases hc
      rw [upd_ne nc]
      exact up _ _ hc
    · rw [upd_ne ndD, upd_ne (Ne.symm ntd), upd_same]
    · have z1 := hE _ _ (k1 _ _ z (by simp)) (fun _ z => by cases z)
      rw [upd_ne ndl, z1] at nd
      cases nd
theorem lk1 (f : Str) (v : V) : (([(f, v)] : List (Str × V)).lookup f) = some v := by simp [List.lookup]
theorem ps_made1 (L : Cls1 X.prog X.w X.K X.mg X.base nm f C fI fd) (hr : Room 2 X.A) (TB : TabB X.base X.mg c PT) (hcode : X.env.code = .ref c)
    (hm : (PT, X.env.qual ++ "<lambda>") ∈ T) (hu : ∀ p ∈ T, p.1 = PT → p.2 = X.env.qual ++ "<lambda>") (hdef : defaultsOf params X.env = ([], []))
    (hcl : closureFor scope X.env = pure []) (LD : LamD X.prog X.w X.K X.mg X.base 0 params body scope ["_law_e"] ["_law_e"] (tbOf X.K [f]))
    (hN0 : X.N[0]? = some ("_law_x" : Str)) (hN3 : X.N[3]? = some ("_law_found" : Str)) (hv0 : Vis X.env.scope "_law_x") (hv3 : Vis X.env.scope "_law_found")
    (hg : Gl X nm) (hdb : (nm == ("__debug__" : Str)) = false) (hln : (p2.endLine == p14.line) = true) :
    PS X (.Expr (.Call (.Attribute (.Name "_law_found" p1) "append" p2) [.Tuple [.Call (.Name nm p3) [.Name "_law_x" p4] [] p5,
      .Call (.Name nm p6) [] [⟨some f, .Name "_law_x" p7, p8⟩] p9, .Lambda params body scope p10, .List [.Name "_law_x" p11] p12] ctx p13] [] p14) p15)
      (tApp X.prog X.w X.K X.mg X.base T C [f] 1) := by
  refine ps_imp (ps_expr (pe_bm PySem.F.plainAttrs_list PySem.F.slot_list_append PySem.F.type_list_append mt_append (pe_var hN3 hv3)
    (pa_cons (pe_tup (pa_cons (pe_oexP L.A.E L.A.iC L.A.tI L.F hr hg L.A.gm L.kp pass0 (by decide : 1 ≤ 1000) (pa_cons (pe_var hN0 hv0) pa_nil) hdb)
      (pa_cons (pe_oexK L.A.E L.A.iC L.A.tI L.F hr hg L.A.gm L.kk pass0 (pk_cons (pe_var hN0 hv0) pk_nil) rfl rfl hdb)
      (pa_cons (pe_lamN TB hcode hm hu hdef hcl) (pa_cons (pe_lst (pa_cons (pe_var hN0 hv0) pa_nil)) pa_nil))))) pa_nil) (hline := hln))) fun D σ H h => ?_
  obtain ⟨Dl, acc, vs, s3, l1, sx, hD, la, hT, k⟩ := h
  obtain ⟨v, rfl⟩ : ∃ v, vs = [v] := by
    cases vs with
    | nil => cases l1
    | cons v r =>
      cases r with
      | nil => exact ⟨v, rfl⟩
      | cons _ _ => cases l1
  have s0 : σ[0]? = some (some v) := sx 0 v rfl
  refine ⟨_, s3, .inl ⟨rfl, _, SqL.of hD⟩, ?_⟩
  -- by place
  refine ⟨v, s0, rfl, fun a na => ?_⟩
  refine ⟨a, C, v, rfl, L.A.E.T, L.A.no f (by simp), upd_same, fun da nda neda => ⟨rfl, ?_⟩⟩
  rw [upd_ne neda] at nda
  -- by name
  refine ⟨v, s0, rfl, fun b nb => ?_⟩
  refine ⟨b, C, v, rfl, L.A.E.T, L.A.no f (by simp), upd_same, fun db ndb nedb => ⟨rfl, ?_⟩⟩
  rw [upd_ne nedb] at ndb
  -- the lambda
  have k1 : Kp [] H (mk1 (mk1 H a C da [(f, v)]) b C db [(f, v)]) := (mk1_kp na nda).trans (mk1_kp nb ndb)
  refine ⟨k1.tabs (fun _ z => by cases z) hT, fun l c' H1 hE hT1 nl hc => ?_⟩
  -- what is due
  refine ⟨v, s0, (show 1 ≤ sizeLine by decide), fun d nd => ?_⟩
  -- the tuple
  refine ⟨(show 4 ≤ sizeLine by decide), fun tp ntp => ?_⟩
  have ea : HasE (mk1 (mk1 H a C da [(f, v)]) b C db [(f, v)]) a C [(f, v)] := (mk1_has neda).go fun _ _ e _ _ => mk1_kp nb ndb _ _ e (by simp)
  obtain ⟨z1, z2, z3, z4⟩ := made_fin (acc := acc) (vs := [v]) (ps := [f]) hD k1 ea (mk1_has nedb) (by simp [lk1]) (by simp [lk1]) hE hT1 nl hc LD nd ntp
  exact ⟨Dl, acc, _, rfl, rfl, z1, Nat.lt_of_lt_of_le la (by decide), k _ _ z2 z3 upd_same z4⟩
end
end K0
set_option maxHeartbeats 0
namespace K0
open PySem PySem.Spec PyProof.Rows L2 LamX
section
variable {X : Cx} {nm f g : Str} {C fI c PT : Addr} {fd : FuncData} {T : List (Addr × Str)} {params : Arguments} {body : Expr} {scope : Scope}
  {p1 p2 p3 p4 p5 p6 p7 p8 p9 p10 p11 p12 p13 p14 p15 p16 p17 p18 p19 p20 : Pos} {ctx : Nat}
theorem ps_made0 (L : Cls0 X.K X.mg nm C) (TB : TabB X.base X.mg c PT) (hcode : X.env.code = .ref c)
    (hm : (PT, X.env.qual ++ "<lambda>") ∈ T) (hu : ∀ p ∈ T, p.1 = PT → p.2 = X.env.qual ++ "<lambda>") (hdef : defaultsOf params X.env = ([], []))
    (hcl : closureFor scope X.env = pure []) (LD : LamD X.prog X.w X.K X.mg X.base 0 params body scope ["_law_e"] ["_law_e"] (tbOf X.K []))
    (hN3 : X.N[3]? = some ("_law_found" : Str)) (hv3 : Vis X.env.scope "_law_found")
    (hg : Gl X nm) (hdb : (nm == ("__debug__" : Str)) = false) (hln : (p2.endLine == p14.line) = true) :
    PS X (.Expr (.Call (.Attribute (.Name "_law_found" p1) "append" p2) [.Tuple [.Call (.Name nm p3) [] [] p5,
      .Call (.Name nm p6) [] [] p9, .Lambda params body scope p10, .List [] p12] ctx p13] [] p14) p15)
      (tApp X.prog X.w X.K X.mg X.base T C [] 0) := by
  refine ps_imp (ps_expr (pe_bm PySem.F.plainAttrs_list PySem.F.slot_list_append PySem.F.type_list_append mt_append (pe_var hN3 hv3)
    (pa_cons (pe_tup (pa_cons (pe_oex0 PySem.F.excBase_ValueError L.ex L.gm L.E.T.kC hg hdb)
      (pa_cons (pe_oex0 PySem.F.excBase_ValueError L.ex L.gm L.E.T.kC hg hdb)
      (pa_cons (pe_lamN TB hcode hm hu hdef hcl) (pa_cons (pe_lst pa_nil) pa_nil))))) pa_nil) (hline := hln))) fun D σ H h => ?_
  obtain ⟨Dl, acc, vs, s3, l1, sx, hD, la, hT, k⟩ := h
  obtain rfl := List.eq_nil_of_length_eq_zero l1
  refine ⟨_, s3, .inl ⟨rfl, _, SqL.of hD⟩, fun a na b nb => ?_⟩
  have k1 : Kp [] H (upd (upd H a (exo a C none)) b (exo b C none)) := (Kp.new na).trans (Kp.new nb)
  refine ⟨k1.tabs (fun _ z => by cases z) hT, fun l c' H1 hE hT1 nl hc => ?_⟩
  refine ⟨(show 0 ≤ sizeLine by decide), fun d nd => ?_⟩
  refine ⟨(show 4 ≤ sizeLine by decide), fun tp ntp => ?_⟩
  have nba : b ≠ a := fun z => by rw [z, upd_same] at nb; cases nb
  have ea : HasE (upd (upd H a (exo a C none)) b (exo b C none)) a C [] := ⟨none, by rw [upd_ne (Ne.symm nba), upd_same], (fun _ z => nomatch z), fun _ => rfl⟩
  have eb : HasE (upd (upd H a (exo a C none)) b (exo b C none)) b C [] := ⟨none, upd_same, (fun _ z => nomatch z), fun _ => rfl⟩
  obtain ⟨z1, z2, z3, z4⟩ := made_fin (acc := acc) (vs := []) (ps := []) hD k1 ea eb rfl rfl hE hT1 nl hc LD nd ntp
  exact ⟨Dl, acc, _, rfl, rfl, z1, Nat.lt_of_lt_of_le la (by decide), k _ _ z2 z3 upd_same z4⟩
/-- an exception with two names in its dict, new -/
def mk2 (H : Hp) (a C da : Addr) (f g : Str) (v u : V) : Hp := upd (mk1 H a C da [(f, v)]) da (exd da [(g, u), (f, v)])
theorem mk2_kp {H : Hp} {a C da : Addr} {v u : V} (na : H a = none) (nda : H da = none) : Kp [] H (mk2 H a C da f g v u) := fun b o e z => by
  unfold mk2
  rw [upd_ne (ne_of_none e nda)]
  exact mk1_kp na nda b o e z
theorem mk2_has {H : Hp} {a C da : Addr} {v u : V} (ne : da ≠ a) : HasE (mk2 H a C da f g v u) a C [(g, u), (f, v)] :=
  ⟨some da, by unfold mk2 mk1; rw [upd_ne (Ne.symm ne), upd_same], fun dx z => by
    obtain rfl := Option.some.inj z
    exact upd_same, fun z => by cases z⟩
theorem lk2 {f g : Str} (u v : V) (h : (f == g) = false) : ([f, g].map fun x => List.lookup x [(g, u), (f, v)]) = [v, u].map some := by
  simp [List.lookup, h]
theorem ps_made2 (L : Cls2 X.prog X.w X.K X.mg X.base nm f g C fI fd) (hfg : (f == g) = false) (hr : Room 2 X.A) (TB : TabB X.base X.mg c PT) (hcode : X.env.code = .ref c)
    (hm : (PT, X.env.qual ++ "<lambda>") ∈ T) (hu : ∀ p ∈ T, p.1 = PT → p.2 = X.env.qual ++ "<lambda>") (hdef : defaultsOf params X.env = ([], []))
    (hcl : closureFor scope X.env = pure []) (LD : LamD X.prog X.w X.K X.mg X.base 0 params body scope ["_law_e"] ["_law_e"] (tbOf X.K [f, g]))
    (hN0 : X.N[0]? = some ("_law_x" : Str)) (hN1 : X.N[1]? = some ("_law_y" : Str)) (hN3 : X.N[3]? = some ("_law_found" : Str)) (hv0 : Vis X.env.scope "_law_x") (hv1 : Vis X.env.scope "_law_y")
    (hv3 : Vis X.env.scope "_law_found") (hg : Gl X nm) (hdb : (nm == ("__debug__" : Str)) = false) (hln : (p2.endLine == p14.line) = true) :
    PS X (.Expr (.Call (.Attribute (.Name "_law_found" p1) "append" p2) [.Tuple [.Call (.Name nm p3) [.Name "_law_x" p4, .Name "_law_y" p16] [] p5,
      .Call (.Name nm p6) [] [⟨some g, .Name "_law_y" p7, p8⟩, ⟨some f, .Name "_law_x" p17, p18⟩] p9, .Lambda params body scope p10,
      .List [.Name "_law_x" p11, .Name "_law_y" p19] p12] ctx p13] [] p14) p15)
      (tApp X.prog X.w X.K X.mg X.base T C [f, g] 2) := by
  refine ps_imp (ps_expr (pe_bm PySem.F.plainAttrs_list PySem.F.slot_list_append PySem.F.type_list_append mt_append (pe_var hN3 hv3)
    (pa_cons (pe_tup (pa_cons (pe_oexP L.A.E L.A.iC L.A.tI L.F hr hg L.A.gm L.kp pass0 (by decide : 2 ≤ 1000) (pa_cons (pe_var hN0 hv0) (pa_cons (pe_var hN1 hv1) pa_nil)) hdb)
      (pa_cons (pe_oexK L.A.E L.A.iC L.A.tI L.F hr hg L.A.gm L.kk pass0 (pk_cons (pe_var hN1 hv1) (pk_cons (pe_var hN0 hv0) pk_nil)) rfl rfl hdb)
      (pa_cons (pe_lamN TB hcode hm hu hdef hcl) (pa_cons (pe_lst (pa_cons (pe_var hN0 hv0) (pa_cons (pe_var hN1 hv1) pa_nil))) pa_nil))))) pa_nil) (hline := hln))) fun D σ H h => ?_
  obtain ⟨Dl, acc, vs, s3, l1, sx, hD, la, hT, k⟩ := h
  obtain ⟨v, u, rfl⟩ : ∃ v u, vs = [v, u] := match vs, l1 with | [v, u], _ => ⟨v, u, rfl⟩
  have s0 : σ[0]? = some (some v) := sx 0 v rfl
  have s1 : σ[1]? = some (some u) := sx 1 u rfl
  refine ⟨_, s3, .inl ⟨rfl, _, SqL.of hD⟩, ?_⟩
  -- by place
  refine ⟨v, s0, u, s1, rfl, fun a na => ?_⟩
  refine ⟨a, C, v, u, rfl, L.A.E.T, L.A.no f (by simp), L.A.no g (by simp), upd_same, fun da nda neda => ⟨rfl, ?_⟩⟩
  rw [upd_ne neda] at nda
  -- by name
  refine ⟨u, s1, v, s0, rfl, fun b nb => ?_⟩
  refine ⟨b, C, v, u, rfl, L.A.E.T, L.A.no f (by simp), L.A.no g (by simp), upd_same, fun db ndb nedb => ⟨rfl, ?_⟩⟩
  rw [upd_ne nedb] at ndb
  -- the lambda
  have k1 : Kp [] H (mk2 (mk2 H a C da f g v u) b C db f g v u) := (mk2_kp na nda).trans (mk2_kp nb ndb)
  refine ⟨k1.tabs (fun _ z => by cases z) hT, fun l c' H1 hE hT1 nl hc => ?_⟩
  -- what is due
  refine ⟨v, s0, u, s1, (show 2 ≤ sizeLine by decide), fun d nd => ?_⟩
  -- the tuple
  refine ⟨(show 4 ≤ sizeLine by decide), fun tp ntp => ?_⟩
  have ea : HasE (mk2 (mk2 H a C da f g v u) b C db f g v u) a C [(g, u), (f, v)] := (mk2_has neda).go fun _ _ e _ _ => mk2_kp nb ndb _ _ e (by simp)
  obtain ⟨z1, z2, z3, z4⟩ := made_fin (acc := acc) (vs := [v, u]) (ps := [f, g]) hD k1 ea (mk2_has nedb) (lk2 u v hfg) (lk2 u v hfg) hE hT1 nl hc LD nd ntp
  exact ⟨Dl, acc, _, rfl, rfl, z1, Nat.lt_of_lt_of_le la (by decide), k _ _ z2 z3 upd_same z4⟩
end
end K0
set_option maxHeartbeats 0
namespace K0
open PySem PySem.Spec PyProof.Rows L2 LamX
/-- what the head tells of a row's class -/
def RowOk (P : Program) (w : World) (K : PySem.W.Frag) (mg : Str → Option Value) (base : Heap) (cad : Str → Addr) (r : Row) : Prop := match r.ps with
  | [] => Cls0 K mg r.nm (cad r.nm)
  | [f] => ∃ fI fd, Cls1 P w K mg base r.nm f (cad r.nm) fI fd
  | [f, g] => (f == g) = false ∧ ∃ fI fd, Cls2 P w K mg base r.nm f g (cad r.nm) fI fd
  | _ => False
def tApps (P : Program) (w : World) (K : PySem.W.Frag) (mg : Str → Option Value) (base : Heap) (T : List (Addr × Str)) (cad : Str → Addr) : List Row → TS → TS
  | [], te => te
  | r :: rs, te => tSeq (tApp P w K mg base T (cad r.nm) r.ps r.ps.length) (tApps P w K mg base T cad rs te)
/-- the tuples of these rows, made of x and y -/
abbrev Mades (P : Program) (w : World) (K : PySem.W.Frag) (mg : Str → Option Value) (base : Heap) (cad : Str → Addr) (x y : V) (H : Hp) (fr : Addr → Prop) : List Row → List V → Prop :=
  Paired fun r t => Made P w K mg base H fr (cad r.nm) r.ps ([x, y].take r.ps.length) t
section
variable {P : Program} {w : World} {K : PySem.W.Frag} {mg : Str → Option Value} {base : Heap} {T : List (Addr × Str)} {cad : Str → Addr}
theorem takeAt {x y : V} {σ : L2.St} {n : Nat} (s0 : σ[0]? = some (some x)) (s1 : σ[1]? = some (some y)) : ∀ (i : Nat) (v : V), ([x, y].take n)[i]? = some v → σ[i]? = some (some v) := by
  intro i v h
  have h2 : ([x, y] : List V)[i]? = some v := by
    rw [List.getElem?_take] at h
    by_cases q : i < n
    · rw [if_pos q] at h; exact h
    · rw [if_neg q] at h; cases h
  match i, h2 with
  | 0, h2 => cases h2; exact s0
  | 1, h2 => cases h2; exact s1
theorem made_chain {H0 : Hp} {Dl : Addr} {x y : V} {σ : L2.St} {te : TS} {D : Ends} (s0 : σ[0]? = some (some x)) (s1 : σ[1]? = some (some y)) (s3 : σ[3]? = some (some (.ref Dl))) (n0 : H0 Dl = none) :
    ∀ (rs done : List Row) (acc : List V) (Hc : Hp), (∀ r ∈ rs, r.ps.length ≤ 2) → KpN [Dl] H0 Hc → Hc Dl = some (.lst acc) → acc.length + rs.length < 100 → Tabs T Hc →
      Mades P w K mg base cad x y Hc (fun d => d ≠ Dl ∧ ∀ xs, H0 d ≠ some (.lst xs)) done acc →
      (∀ H' ts, KpN [Dl] H0 H' → Tabs T H' → H' Dl = some (.lst ts) → Mades P w K mg base cad x y H' (fun d => d ≠ Dl ∧ ∀ xs, H0 d ≠ some (.lst xs)) (done ++ rs) ts → te D σ H') →
      tApps P w K mg base T cad rs te D σ Hc
  | [], done, acc, Hc, _, k, hD, _, hT, m, e => e Hc acc k hT hD (by rw [List.append_nil]; exact m)
  | r :: rs, done, acc, Hc, hp, k, hD, la, hT, m, e => by
    have hr : r.ps.length ≤ 2 := hp r (by simp)
    simp only [List.length_cons] at la
    refine ⟨Dl, acc, [x, y].take r.ps.length, s3, by simp; omega, takeAt s0 s1, hD, by omega, hT, fun H' t k2 hT2 hD2 mt => ?_⟩
    refine made_chain s0 s1 s3 n0 rs (done ++ [r]) (acc ++ [t]) H' (fun q hq => hp q (by simp [hq])) (k.trans k2) hD2 (by simp; omega) hT2 ?_ (by
      rw [List.append_assoc]
      exact e)
    have goD : ∀ b o, Hc b = some o → (∀ ps, o ≠ .tbl ps) → (∀ xs, o ≠ .lst xs) → H' b = some o := fun b o q t n => k2 b o q (fun z => by
      rw [List.mem_singleton.mp z, hD] at q
      exact n _ (Option.some.inj q).symm) t
    refine Paired.snoc (L2.Paired.mapP m fun r2 t2 m2 => m2.go goD fun d fd xs q => ⟨k2 d _ q (fun z => fd.1 (List.mem_singleton.mp z)) (fun _ z => by cases z), fd⟩) ?_
    exact mt.go (fun b o q _ _ => q) fun d fd xs q => ⟨q, fun z => fd acc (by rw [z]; exact hD), fun ys z =>
      fd ys (k d _ z (fun u => by rw [List.mem_singleton.mp u, n0] at z; cases z) (fun _ u => by cases u))⟩
/-- a def that makes them -/
def spMade (P : Program) (w : World) (K : PySem.W.Frag) (mg : Str → Option Value) (base : Heap) (T : List (Addr × Str)) (cad : Str → Addr) (rs : List Row) : Sp := fun vs H Q _ => ∃ (x y z : V), vs = [x, y, z] ∧ Tabs T H ∧
  ∀ (H' : Hp) (p : Addr) (ts : List V), KpN [] H H' → Tabs T H' → H p = none → H' p = some (.lst ts) → Mades P w K mg base cad x y H' (fun d => d ≠ p ∧ ∀ xs, H d ≠ some (.lst xs)) rs ts → Q (.ref p) H'
abbrev nMade : List Str := ["_law_x", "_law_y", "_law_z", "_law_found"]
theorem scMade (i : Nat) (h : i = 58 ∨ i = 59 ∨ i = 60) : FnScope nMade ["_law_x", "_law_y", "_law_z"] (defScope (top i)) := by
  rcases h with rfl | rfl | rfl <;> exact ⟨rfl, rfl, rfl, by decide +kernel, rfl, by decide +kernel, by decide +kernel⟩
end
end K0
set_option maxHeartbeats 0
namespace K0
open PySem PySem.Spec PyProof.Rows L2 LamX
section
variable {P : Program} {w : World} {K : PySem.W.Frag} {mg : Str → Option Value} {base : Heap} {T : List (Addr × Str)} {cad : Str → Addr} {fd : FuncData}
theorem ok_made_a (F : FnP K "_law_made_a" 58 (He.fAd K ("_law_made_a", none)) fd) (TB : TabB base mg (He.cT K ("_law_made_a", none)).1 (He.cT K ("_law_made_a", none)).2)
    (hm : ((He.cT K ("_law_made_a", none)).2, ("_law_made_a.<locals>.<lambda>" : Str)) ∈ T)
    (hu : ∀ p ∈ T, p.1 = (He.cT K ("_law_made_a", none)).2 → p.2 = ("_law_made_a.<locals>.<lambda>" : Str)) (R : ∀ r ∈ rowsA, RowOk P w K mg base cad r) :
    FnOk P w K mg base CX0 3 (He.fAd K ("_law_made_a", none)) fd ["_law_x", "_law_y", "_law_z"] (spMade P w K mg base T cad rowsA) := by
  obtain ⟨i0, d0, hBadAnswers⟩ : ∃ fI fd, Cls1 P w K mg base "BadAnswers" "index" (cad "BadAnswers") fI fd := R rowsA[0] (List.getElem_mem _)
  obtain ⟨i1, d1, hBadBody⟩ : ∃ fI fd, Cls1 P w K mg base "BadBody" "thing" (cad "BadBody") fI fd := R rowsA[1] (List.getElem_mem _)
  obtain ⟨i2, d2, hBadBook⟩ : ∃ fI fd, Cls1 P w K mg base "BadBook" "thing" (cad "BadBook") fI fd := R rowsA[2] (List.getElem_mem _)
  obtain ⟨i3, d3, hBadChoices⟩ : ∃ fI fd, Cls1 P w K mg base "BadChoices" "index" (cad "BadChoices") fI fd := R rowsA[3] (List.getElem_mem _)
  obtain ⟨i4, d4, hBadChosen⟩ : ∃ fI fd, Cls1 P w K mg base "BadChosen" "index" (cad "BadChosen") fI fd := R rowsA[4] (List.getElem_mem _)
  obtain ⟨i5, d5, hBadDeed⟩ : ∃ fI fd, Cls1 P w K mg base "BadDeed" "thing" (cad "BadDeed") fI fd := R rowsA[5] (List.getElem_mem _)
  obtain ⟨i6, d6, hBadForm⟩ : ∃ fI fd, Cls1 P w K mg base "BadForm" "thing" (cad "BadForm") fI fd := R rowsA[6] (List.getElem_mem _)
  obtain ⟨i7, d7, hBadLast⟩ : ∃ fI fd, Cls1 P w K mg base "BadLast" "index" (cad "BadLast") fI fd := R rowsA[7] (List.getElem_mem _)
  obtain ⟨i8, d8, hBadLetter⟩ : ∃ fI fd, Cls1 P w K mg base "BadLetter" "thing" (cad "BadLetter") fI fd := R rowsA[8] (List.getElem_mem _)
  obtain ⟨i9, d9, hBadLong⟩ : ∃ fI fd, Cls1 P w K mg base "BadLong" "thing" (cad "BadLong") fI fd := R rowsA[9] (List.getElem_mem _)
  obtain ⟨i10, d10, hBadMany⟩ : ∃ fI fd, Cls1 P w K mg base "BadMany" "thing" (cad "BadMany") fI fd := R rowsA[10] (List.getElem_mem _)
  obtain ⟨i11, d11, hBadMost⟩ : ∃ fI fd, Cls1 P w K mg base "BadMost" "thing" (cad "BadMost") fI fd := R rowsA[11] (List.getElem_mem _)
  obtain ⟨i12, d12, hBadName⟩ : ∃ fI fd, Cls1 P w K mg base "BadName" "thing" (cad "BadName") fI fd := R rowsA[12] (List.getElem_mem _)
  obtain ⟨i13, d13, hBadNames⟩ : ∃ fI fd, Cls1 P w K mg base "BadNames" "thing" (cad "BadNames") fI fd := R rowsA[13] (List.getElem_mem _)
  obtain ⟨i14, d14, hBadNumber⟩ : ∃ fI fd, Cls1 P w K mg base "BadNumber" "thing" (cad "BadNumber") fI fd := R rowsA[14] (List.getElem_mem _)
  obtain ⟨i15, d15, hBadOther⟩ : ∃ fI fd, Cls1 P w K mg base "BadOther" "thing" (cad "BadOther") fI fd := R rowsA[15] (List.getElem_mem _)
  obtain ⟨i16, d16, hBadPlan⟩ : ∃ fI fd, Cls1 P w K mg base "BadPlan" "thing" (cad "BadPlan") fI fd := R rowsA[16] (List.getElem_mem _)
  obtain ⟨i17, d17, hBadProcs⟩ : ∃ fI fd, Cls1 P w K mg base "BadProcs" "index" (cad "BadProcs") fI fd := R rowsA[17] (List.getElem_mem _)
  obtain ⟨oc, od, dV, kV, doc, pm, an, cdv, ct, osl, rfl, lk, hcd, _, _⟩ := F.ex
  obtain ⟨c, rfl⟩ := He.codeIn_ref hcd
  have ec : (He.cT K ("_law_made_a", none)).1 = c := He.codeOf_eq lk rfl
  rw [ec] at TB
  have S := scMade 58 (by decide)
  refine fn_of lk hcd S (fun vs H Q E h => ?_) fun A outer s H vs Q E hr h => ?_
  · obtain ⟨x, y, z, rfl, _⟩ := h
    rfl
  · obtain ⟨x, y, z, rfl, hT, k⟩ := h
    refine ⟨tSeq (tAsg (tLst tNil) (gName 3)) (tApps P w K mg base T cad rowsA (tRet (tVar 3))), PSs.nox (pss_cons (ps_set (i := 3) S.nd rfl (Or.inl rfl) (pe_lst pa_nil))
      (pss_cons (ps_made1 (hBadAnswers) hr TB rfl hm hu rfl rfl (lamD1 ⟨rfl, rfl, rfl, by decide +kernel, rfl, by decide +kernel, by decide +kernel⟩ (Or.inl rfl) (fun _ _ _ _ us hl => match us, hl with | [_], _ => rfl)) rfl rfl (Or.inl rfl) (Or.inl rfl) (by rfl) (by decide) (by rfl))
      (pss_cons (ps_made1 (hBadBody) hr TB rfl hm hu rfl rfl (lamD1 ⟨rfl, rfl, rfl, by decide +kernel, rfl, by decide +kernel, by decide +kernel⟩ (Or.inl rfl) (fun _ _ _ _ us hl => match us, hl with | [_], _ => rfl)) rfl rfl (Or.inl rfl) (Or.inl rfl) (by rfl) (by decide) (by rfl))
      (pss_cons (ps_made1 (hBadBook) hr TB rfl hm hu rfl rfl (lamD1 ⟨rfl, rfl, rfl, by decide +kernel, rfl, by decide +kernel, by decide +kernel⟩ (Or.inl rfl) (fun _ _ _ _ us hl => match us, hl with | [_], _ => rfl)) rfl rfl (Or.inl rfl) (Or.inl rfl) (by rfl) (by decide) (by rfl))
      (pss_cons (ps_made1 (hBadChoices) hr TB rfl hm hu rfl rfl (lamD1 ⟨rfl, rfl, rfl, by decide +kernel, rfl, by decide +kernel, by decide +kernel⟩ (Or.inl rfl) (fun _ _ _ _ us hl => match us, hl with | [_], _ => rfl)) rfl rfl (Or.inl rfl) (Or.inl rfl) (by rfl) (by decide) (by rfl))
      (pss_cons (ps_made1 (hBadChosen) hr TB rfl hm hu rfl rfl (lamD1 ⟨rfl, rfl, rfl, by decide +kernel, rfl, by decide +kernel, by decide +kernel⟩ (Or.inl rfl) (fun _ _ _ _ us hl => match us, hl with | [_], _ => rfl)) rfl rfl (Or.inl rfl) (Or.inl rfl) (by rfl) (by decide) (by rfl))
      (pss_cons (ps_made1 (hBadDeed) hr TB rfl hm hu rfl rfl (lamD1 ⟨rfl, rfl, rfl, by decide +kernel, rfl, by decide +kernel, by decide +kernel⟩ (Or.inl rfl) (fun _ _ _ _ us hl => match us, hl with | [_], _ => rfl)) rfl rfl (Or.inl rfl) (Or.inl rfl) (by rfl) (by decide) (by rfl))
      (pss_cons (ps_made1 (hBadForm) hr TB rfl hm hu rfl rfl (lamD1 ⟨rfl, rfl, rfl, by decide +kernel, rfl, by decide +kernel, by decide +kernel⟩ (Or.inl rfl) (fun _ _ _ _ us hl => match us, hl with | [_], _ => rfl)) rfl rfl (Or.inl rfl) (Or.inl rfl) (by rfl) (by decide) (by rfl))
      (pss_cons (ps_made1 (hBadLast) hr TB rfl hm hu rfl rfl (lamD1 ⟨rfl, rfl, rfl, by decide +kernel, rfl, by decide +kernel, by decide +kernel⟩ (Or.inl rfl) (fun _ _ _ _ us hl => match us, hl with | [_], _ => rfl)) rfl rfl (Or.inl rfl) (Or.inl rfl) (by rfl) (by decide) (by rfl))
      (pss_cons (ps_made1 (hBadLetter) hr TB rfl hm hu rfl rfl (lamD1 ⟨rfl, rfl, rfl, by decide +kernel, rfl, by decide +kernel, by decide +kernel⟩ (Or.inl rfl) (fun _ _ _ _ us hl => match us, hl with | [_], _ => rfl)) rfl rfl (Or.inl rfl) (Or.inl rfl) (by rfl) (by decide) (by rfl))
      (pss_cons (ps_made1 (hBadLong) hr TB rfl hm hu rfl rfl (lamD1 ⟨rfl, rfl, rfl, by decide +kernel, rfl, by decide +kernel, by decide +kernel⟩ (Or.inl rfl) (fun _ _ _ _ us hl => match us, hl with | [_], _ => rfl)) rfl rfl (Or.inl rfl) (Or.inl rfl) (by rfl) (by decide) (by rfl))
      (pss_cons (ps_made1 (hBadMany) hr TB rfl hm hu rfl rfl (lamD1 ⟨rfl, rfl, rfl, by decide +kernel, rfl, by decide +kernel, by decide +kernel⟩ (Or.inl rfl) (fun _ _ _ _ us hl => match us, hl with | [_], _ => rfl)) rfl rfl (Or.inl rfl) (Or.inl rfl) (by rfl) (by decide) (by rfl))
      (pss_cons (ps_made1 (hBadMost) hr TB rfl hm hu rfl rfl (lamD1 ⟨rfl, rfl, rfl, by decide +kernel, rfl, by decide +kernel, by decide +kernel⟩ (Or.inl rfl) (fun _ _ _ _ us hl => match us, hl with | [_], _ => rfl)) rfl rfl (Or.inl rfl) (Or.inl rfl) (by rfl) (by decide) (by rfl))
      (pss_cons (ps_made1 (hBadName) hr TB rfl hm hu rfl rfl (lamD1 ⟨rfl, rfl, rfl, by decide +kernel, rfl, by decide +kernel, by decide +kernel⟩ (Or.inl rfl) (fun _ _ _ _ us hl => match us, hl with | [_], _ => rfl)) rfl rfl (Or.inl rfl) (Or.inl rfl) (by rfl) (by decide) (by rfl))
      (pss_cons (ps_made1 (hBadNames) hr TB rfl hm hu rfl rfl (lamD1 ⟨rfl, rfl, rfl, by decide +kernel, rfl, by decide +kernel, by decide +kernel⟩ (Or.inl rfl) (fun _ _ _ _ us hl => match us, hl with | [_], _ => rfl)) rfl rfl (Or.inl rfl) (Or.inl rfl) (by rfl) (by decide) (by rfl))
      (pss_cons (ps_made1 (hBadNumber) hr TB rfl hm hu rfl rfl (lamD1 ⟨rfl, rfl, rfl, by decide +kernel, rfl, by decide +kernel, by decide +kernel⟩ (Or.inl rfl) (fun _ _ _ _ us hl => match us, hl with | [_], _ => rfl)) rfl rfl (Or.inl rfl) (Or.inl rfl) (by rfl) (by decide) (by rfl))
      (pss_cons (ps_made1 (hBadOther) hr TB rfl hm hu rfl rfl (lamD1 ⟨rfl, rfl, rfl, by decide +kernel, rfl, by decide +kernel, by decide +kernel⟩ (Or.inl rfl) (fun _ _ _ _ us hl => match us, hl with | [_], _ => rfl)) rfl rfl (Or.inl rfl) (Or.inl rfl) (by rfl) (by decide) (by rfl))
      (pss_cons (ps_made1 (hBadPlan) hr TB rfl hm hu rfl rfl (lamD1 ⟨rfl, rfl, rfl, by decide +kernel, rfl, by decide +kernel, by decide +kernel⟩ (Or.inl rfl) (fun _ _ _ _ us hl => match us, hl with | [_], _ => rfl)) rfl rfl (Or.inl rfl) (Or.inl rfl) (by rfl) (by decide) (by rfl))
      (pss_cons (ps_made1 (hBadProcs) hr TB rfl hm hu rfl rfl (lamD1 ⟨rfl, rfl, rfl, by decide +kernel, rfl, by decide +kernel, by decide +kernel⟩ (Or.inl rfl) (fun _ _ _ _ us hl => match us, hl with | [_], _ => rfl)) rfl rfl (Or.inl rfl) (Or.inl rfl) (by rfl) (by decide) (by rfl))
      (pss_one (ps_ret (pv 3)))))))))))))))))))))), ?_⟩
    refine ⟨Nat.zero_le _, fun Dl nD => ?_⟩
    refine made_chain (x := x) (y := y) (H0 := H) (Dl := Dl) rfl rfl rfl nD rowsA [] [] _ (by decide) (KpN.trans (Kp.n (Kp.new nD)) KpN.refl) upd_same (by decide) (Tabs.ext hT fun b o e => by rw [upd_ne (ne_of_none e nD)]; exact e) .nil ?_
    intro H' ts k1 hT1 hD1 m1
    exact ⟨_, rfl, k H' Dl ts (KpN.drop k1 nD) hT1 nD hD1 m1⟩
end
end K0
set_option maxHeartbeats 0
namespace K0
open PySem PySem.Spec PyProof.Rows L2 LamX
section
variable {P : Program} {w : World} {K : PySem.W.Frag} {mg : Str → Option Value} {base : Heap} {T : List (Addr × Str)} {cad : Str → Addr} {fd : FuncData}
theorem ok_made_b (F : FnP K "_law_made_b" 59 (He.fAd K ("_law_made_b", none)) fd) (TB : TabB base mg (He.cT K ("_law_made_b", none)).1 (He.cT K ("_law_made_b", none)).2)
    (hm : ((He.cT K ("_law_made_b", none)).2, ("_law_made_b.<locals>.<lambda>" : Str)) ∈ T)
    (hu : ∀ p ∈ T, p.1 = (He.cT K ("_law_made_b", none)).2 → p.2 = ("_law_made_b.<locals>.<lambda>" : Str)) (R : ∀ r ∈ rowsB, RowOk P w K mg base cad r) :
    FnOk P w K mg base CX0 3 (He.fAd K ("_law_made_b", none)) fd ["_law_x", "_law_y", "_law_z"] (spMade P w K mg base T cad rowsB) := by
  obtain ⟨i0, d0, hBadProgram⟩ : ∃ fI fd, Cls1 P w K mg base "BadProgram" "thing" (cad "BadProgram") fI fd := R rowsB[0] (List.getElem_mem _)
  obtain ⟨i1, d1, hBadQuestion⟩ : ∃ fI fd, Cls1 P w K mg base "BadQuestion" "thing" (cad "BadQuestion") fI fd := R rowsB[1] (List.getElem_mem _)
  obtain ⟨i2, d2, hBadRow⟩ : ∃ fI fd, Cls1 P w K mg base "BadRow" "index" (cad "BadRow") fI fd := R rowsB[2] (List.getElem_mem _)
  obtain ⟨i3, d3, hBadRows⟩ : ∃ fI fd, Cls1 P w K mg base "BadRows" "index" (cad "BadRows") fI fd := R rowsB[3] (List.getElem_mem _)
  obtain ⟨i4, d4, hBadRule⟩ : ∃ fI fd, Cls1 P w K mg base "BadRule" "thing" (cad "BadRule") fI fd := R rowsB[4] (List.getElem_mem _)
  obtain ⟨i5, d5, hBadSecond⟩ : ∃ fI fd, Cls1 P w K mg base "BadSecond" "thing" (cad "BadSecond") fI fd := R rowsB[5] (List.getElem_mem _)
  obtain ⟨i6, d6, hBadSession⟩ : ∃ fI fd, Cls1 P w K mg base "BadSession" "thing" (cad "BadSession") fI fd := R rowsB[6] (List.getElem_mem _)
  obtain ⟨i7, d7, hBadString⟩ : ∃ fI fd, Cls1 P w K mg base "BadString" "thing" (cad "BadString") fI fd := R rowsB[7] (List.getElem_mem _)
  obtain ⟨i8, d8, hBadTable⟩ : ∃ fI fd, Cls1 P w K mg base "BadTable" "thing" (cad "BadTable") fI fd := R rowsB[8] (List.getElem_mem _)
  obtain ⟨i9, d9, hBadTalks⟩ : ∃ fI fd, Cls1 P w K mg base "BadTalks" "index" (cad "BadTalks") fI fd := R rowsB[9] (List.getElem_mem _)
  obtain ⟨eBadText, i10, d10, hBadText⟩ : (("line" : Str) == ("sign" : Str)) = false ∧ ∃ fI fd, Cls2 P w K mg base "BadText" "line" "sign" (cad "BadText") fI fd := R rowsB[10] (List.getElem_mem _)
  obtain ⟨i11, d11, hBadTold⟩ : ∃ fI fd, Cls1 P w K mg base "BadTold" "index" (cad "BadTold") fI fd := R rowsB[11] (List.getElem_mem _)
  obtain ⟨i12, d12, hBadWord⟩ : ∃ fI fd, Cls1 P w K mg base "BadWord" "index" (cad "BadWord") fI fd := R rowsB[12] (List.getElem_mem _)
  obtain ⟨i13, d13, hHasRule⟩ : ∃ fI fd, Cls1 P w K mg base "HasRule" "rule" (cad "HasRule") fI fd := R rowsB[13] (List.getElem_mem _)
  obtain ⟨i14, d14, hInRow⟩ : ∃ fI fd, Cls1 P w K mg base "InRow" "name" (cad "InRow") fI fd := R rowsB[14] (List.getElem_mem _)
  obtain ⟨i15, d15, hInUse⟩ : ∃ fI fd, Cls1 P w K mg base "InUse" "question" (cad "InUse") fI fd := R rowsB[15] (List.getElem_mem _)
  obtain ⟨i16, d16, hIsWatched⟩ : ∃ fI fd, Cls1 P w K mg base "IsWatched" "question" (cad "IsWatched") fI fd := R rowsB[16] (List.getElem_mem _)
  obtain ⟨i17, d17, hLastRule⟩ : ∃ fI fd, Cls1 P w K mg base "LastRule" "name" (cad "LastRule") fI fd := R rowsB[17] (List.getElem_mem _)
  obtain ⟨oc, od, dV, kV, doc, pm, an, cdv, ct, osl, rfl, lk, hcd, _, _⟩ := F.ex
  obtain ⟨c, rfl⟩ := He.codeIn_ref hcd
  have ec : (He.cT K ("_law_made_b", none)).1 = c := He.codeOf_eq lk rfl
  rw [ec] at TB
  have S := scMade 59 (by decide)
  refine fn_of lk hcd S (fun vs H Q E h => ?_) fun A outer s H vs Q E hr h => ?_
  · obtain ⟨x, y, z, rfl, _⟩ := h
    rfl
  · obtain ⟨x, y, z, rfl, hT, k⟩ := h
    refine ⟨tSeq (tAsg (tLst tNil) (gName 3)) (tApps P w K mg base T cad rowsB (tRet (tVar 3))), PSs.nox (pss_cons (ps_set (i := 3) S.nd rfl (Or.inl rfl) (pe_lst pa_nil))
      (pss_cons (ps_made1 (hBadProgram) hr TB rfl hm hu rfl rfl (lamD1 ⟨rfl, rfl, rfl, by decide +kernel, rfl, by decide +kernel, by decide +kernel⟩ (Or.inl rfl) (fun _ _ _ _ us hl => match us, hl with | [_], _ => rfl)) rfl rfl (Or.inl rfl) (Or.inl rfl) (by rfl) (by decide) (by rfl))
      (pss_cons (ps_made1 (hBadQuestion) hr TB rfl hm hu rfl rfl (lamD1 ⟨rfl, rfl, rfl, by decide +kernel, rfl, by decide +kernel, by decide +kernel⟩ (Or.inl rfl) (fun _ _ _ _ us hl => match us, hl with | [_], _ => rfl)) rfl rfl (Or.inl rfl) (Or.inl rfl) (by rfl) (by decide) (by rfl))
      (pss_cons (ps_made1 (hBadRow) hr TB rfl hm hu rfl rfl (lamD1 ⟨rfl, rfl, rfl, by decide +kernel, rfl, by decide +kernel, by decide +kernel⟩ (Or.inl rfl) (fun _ _ _ _ us hl => match us, hl with | [_], _ => rfl)) rfl rfl (Or.inl rfl) (Or.inl rfl) (by rfl) (by decide) (by rfl))
      (pss_cons (ps_made1 (hBadRows) hr TB rfl hm hu rfl rfl (lamD1 ⟨rfl, rfl, rfl, by decide +kernel, rfl, by decide +kernel, by decide +kernel⟩ (Or.inl rfl) (fun _ _ _ _ us hl => match us, hl with | [_], _ => rfl)) rfl rfl (Or.inl rfl) (Or.inl rfl) (by rfl) (by decide) (by rfl))
      (pss_cons (ps_made1 (hBadRule) hr TB rfl hm hu rfl rfl (lamD1 ⟨rfl, rfl, rfl, by decide +kernel, rfl, by decide +kernel, by decide +kernel⟩ (Or.inl rfl) (fun _ _ _ _ us hl => match us, hl with | [_], _ => rfl)) rfl rfl (Or.inl rfl) (Or.inl rfl) (by rfl) (by decide) (by rfl))
      (pss_cons (ps_made1 (hBadSecond) hr TB rfl hm hu rfl rfl (lamD1 ⟨rfl, rfl, rfl, by decide +kernel, rfl, by decide +kernel, by decide +kernel⟩ (Or.inl rfl) (fun _ _ _ _ us hl => match us, hl with | [_], _ => rfl)) rfl rfl (Or.inl rfl) (Or.inl rfl) (by rfl) (by decide) (by rfl))
      (pss_cons (ps_made1 (hBadSession) hr TB rfl hm hu rfl rfl (lamD1 ⟨rfl, rfl, rfl, by decide +kernel, rfl, by decide +kernel, by decide +kernel⟩ (Or.inl rfl) (fun _ _ _ _ us hl => match us, hl with | [_], _ => rfl)) rfl rfl (Or.inl rfl) (Or.inl rfl) (by rfl) (by decide) (by rfl))
      (pss_cons (ps_made1 (hBadString) hr TB rfl hm hu rfl rfl (lamD1 ⟨rfl, rfl, rfl, by decide +kernel, rfl, by decide +kernel, by decide +kernel⟩ (Or.inl rfl) (fun _ _ _ _ us hl => match us, hl with | [_], _ => rfl)) rfl rfl (Or.inl rfl) (Or.inl rfl) (by rfl) (by decide) (by rfl))
      (pss_cons (ps_made1 (hBadTable) hr TB rfl hm hu rfl rfl (lamD1 ⟨rfl, rfl, rfl, by decide +kernel, rfl, by decide +kernel, by decide +kernel⟩ (Or.inl rfl) (fun _ _ _ _ us hl => match us, hl with | [_], _ => rfl)) rfl rfl (Or.inl rfl) (Or.inl rfl) (by rfl) (by decide) (by rfl))
      (pss_cons (ps_made1 (hBadTalks) hr TB rfl hm hu rfl rfl (lamD1 ⟨rfl, rfl, rfl, by decide +kernel, rfl, by decide +kernel, by decide +kernel⟩ (Or.inl rfl) (fun _ _ _ _ us hl => match us, hl with | [_], _ => rfl)) rfl rfl (Or.inl rfl) (Or.inl rfl) (by rfl) (by decide) (by rfl))
      (pss_cons (ps_made2 (hBadText) eBadText hr TB rfl hm hu rfl rfl (lamD2 ⟨rfl, rfl, rfl, by decide +kernel, rfl, by decide +kernel, by decide +kernel⟩ (Or.inl rfl) (fun _ _ _ _ us hl => match us, hl with | [_], _ => rfl)) rfl rfl rfl (Or.inl rfl) (Or.inl rfl) (Or.inl rfl) (by rfl) (by decide) (by rfl))
      (pss_cons (ps_made1 (hBadTold) hr TB rfl hm hu rfl rfl (lamD1 ⟨rfl, rfl, rfl, by decide +kernel, rfl, by decide +kernel, by decide +kernel⟩ (Or.inl rfl) (fun _ _ _ _ us hl => match us, hl with | [_], _ => rfl)) rfl rfl (Or.inl rfl) (Or.inl rfl) (by rfl) (by decide) (by rfl))
      (pss_cons (ps_made1 (hBadWord) hr TB rfl hm hu rfl rfl (lamD1 ⟨rfl, rfl, rfl, by decide +kernel, rfl, by decide +kernel, by decide +kernel⟩ (Or.inl rfl) (fun _ _ _ _ us hl => match us, hl with | [_], _ => rfl)) rfl rfl (Or.inl rfl) (Or.inl rfl) (by rfl) (by decide) (by rfl))
      (pss_cons (ps_made1 (hHasRule) hr TB rfl hm hu rfl rfl (lamD1 ⟨rfl, rfl, rfl, by decide +kernel, rfl, by decide +kernel, by decide +kernel⟩ (Or.inl rfl) (fun _ _ _ _ us hl => match us, hl with | [_], _ => rfl)) rfl rfl (Or.inl rfl) (Or.inl rfl) (by rfl) (by decide) (by rfl))
      (pss_cons (ps_made1 (hInRow) hr TB rfl hm hu rfl rfl (lamD1 ⟨rfl, rfl, rfl, by decide +kernel, rfl, by decide +kernel, by decide +kernel⟩ (Or.inl rfl) (fun _ _ _ _ us hl => match us, hl with | [_], _ => rfl)) rfl rfl (Or.inl rfl) (Or.inl rfl) (by rfl) (by decide) (by rfl))
      (pss_cons (ps_made1 (hInUse) hr TB rfl hm hu rfl rfl (lamD1 ⟨rfl, rfl, rfl, by decide +kernel, rfl, by decide +kernel, by decide +kernel⟩ (Or.inl rfl) (fun _ _ _ _ us hl => match us, hl with | [_], _ => rfl)) rfl rfl (Or.inl rfl) (Or.inl rfl) (by rfl) (by decide) (by rfl))
      (pss_cons (ps_made1 (hIsWatched) hr TB rfl hm hu rfl rfl (lamD1 ⟨rfl, rfl, rfl, by decide +kernel, rfl, by decide +kernel, by decide +kernel⟩ (Or.inl rfl) (fun _ _ _ _ us hl => match us, hl with | [_], _ => rfl)) rfl rfl (Or.inl rfl) (Or.inl rfl) (by rfl) (by decide) (by rfl))
      (pss_cons (ps_made1 (hLastRule) hr TB rfl hm hu rfl rfl (lamD1 ⟨rfl, rfl, rfl, by decide +kernel, rfl, by decide +kernel, by decide +kernel⟩ (Or.inl rfl) (fun _ _ _ _ us hl => match us, hl with | [_], _ => rfl)) rfl rfl (Or.inl rfl) (Or.inl rfl) (by rfl) (by decide) (by rfl))
      (pss_one (ps_ret (pv 3)))))))))))))))))))))), ?_⟩
    refine ⟨Nat.zero_le _, fun Dl nD => ?_⟩
    refine made_chain (x := x) (y := y) (H0 := H) (Dl := Dl) rfl rfl rfl nD rowsB [] [] _ (by decide) (KpN.trans (Kp.n (Kp.new nD)) KpN.refl) upd_same (by decide) (Tabs.ext hT fun b o e => by rw [upd_ne (ne_of_none e nD)]; exact e) .nil ?_
    intro H' ts k1 hT1 hD1 m1
    exact ⟨_, rfl, k H' Dl ts (KpN.drop k1 nD) hT1 nD hD1 m1⟩
end
section
variable {P : Program} {w : World} {K : PySem.W.Frag} {mg : Str → Option Value} {base : Heap} {T : List (Addr × Str)} {cad : Str → Addr} {fd : FuncData}
theorem ok_made_c (F : FnP K "_law_made_c" 60 (He.fAd K ("_law_made_c", none)) fd) (TB : TabB base mg (He.cT K ("_law_made_c", none)).1 (He.cT K ("_law_made_c", none)).2)
    (hm : ((He.cT K ("_law_made_c", none)).2, ("_law_made_c.<locals>.<lambda>" : Str)) ∈ T)
    (hu : ∀ p ∈ T, p.1 = (He.cT K ("_law_made_c", none)).2 → p.2 = ("_law_made_c.<locals>.<lambda>" : Str)) (R : ∀ r ∈ rowsC, RowOk P w K mg base cad r) :
    FnOk P w K mg base CX0 3 (He.fAd K ("_law_made_c", none)) fd ["_law_x", "_law_y", "_law_z"] (spMade P w K mg base T cad rowsC) := by
  obtain ⟨i0, d0, hNoCount⟩ : ∃ fI fd, Cls1 P w K mg base "NoCount" "thing" (cad "NoCount") fI fd := R rowsC[0] (List.getElem_mem _)
  obtain ⟨i1, d1, hNoEnd⟩ : ∃ fI fd, Cls1 P w K mg base "NoEnd" "name" (cad "NoEnd") fI fd := R rowsC[1] (List.getElem_mem _)
  obtain ⟨i2, d2, hNoProc⟩ : ∃ fI fd, Cls1 P w K mg base "NoProc" "thing" (cad "NoProc") fI fd := R rowsC[2] (List.getElem_mem _)
  have hNoRoot : Cls0 K mg "NoRoot" (cad "NoRoot") := R rowsC[3] (List.getElem_mem _)
  obtain ⟨eNoRule, i4, d4, hNoRule⟩ : (("letter" : Str) == ("row" : Str)) = false ∧ ∃ fI fd, Cls2 P w K mg base "NoRule" "letter" "row" (cad "NoRule") fI fd := R rowsC[4] (List.getElem_mem _)
  obtain ⟨i5, d5, hNoTalk⟩ : ∃ fI fd, Cls1 P w K mg base "NoTalk" "thing" (cad "NoTalk") fI fd := R rowsC[5] (List.getElem_mem _)
  obtain ⟨i6, d6, hNotAlike⟩ : ∃ fI fd, Cls1 P w K mg base "NotAlike" "other" (cad "NotAlike") fI fd := R rowsC[6] (List.getElem_mem _)
  obtain ⟨i7, d7, hNotChecked⟩ : ∃ fI fd, Cls1 P w K mg base "NotChecked" "fault" (cad "NotChecked") fI fd := R rowsC[7] (List.getElem_mem _)
  have hNotClear : Cls0 K mg "NotClear" (cad "NotClear") := R rowsC[8] (List.getElem_mem _)
  obtain ⟨i9, d9, hNotFinished⟩ : ∃ fI fd, Cls1 P w K mg base "NotFinished" "index" (cad "NotFinished") fI fd := R rowsC[9] (List.getElem_mem _)
  obtain ⟨i10, d10, hNotPrime⟩ : ∃ fI fd, Cls1 P w K mg base "NotPrime" "thing" (cad "NotPrime") fI fd := R rowsC[10] (List.getElem_mem _)
  obtain ⟨i11, d11, hNotShortest⟩ : ∃ fI fd, Cls1 P w K mg base "NotShortest" "word" (cad "NotShortest") fI fd := R rowsC[11] (List.getElem_mem _)
  obtain ⟨i12, d12, hNotSimple⟩ : ∃ fI fd, Cls1 P w K mg base "NotSimple" "name" (cad "NotSimple") fI fd := R rowsC[12] (List.getElem_mem _)
  obtain ⟨i13, d13, hNotWatched⟩ : ∃ fI fd, Cls1 P w K mg base "NotWatched" "question" (cad "NotWatched") fI fd := R rowsC[13] (List.getElem_mem _)
  obtain ⟨eStrangeRow, i14, d14, hStrangeRow⟩ : (("name" : Str) == ("index" : Str)) = false ∧ ∃ fI fd, Cls2 P w K mg base "StrangeRow" "name" "index" (cad "StrangeRow") fI fd := R rowsC[14] (List.getElem_mem _)
  obtain ⟨eWouldChange, i15, d15, hWouldChange⟩ : (("question" : Str) == ("why" : Str)) = false ∧ ∃ fI fd, Cls2 P w K mg base "WouldChange" "question" "why" (cad "WouldChange") fI fd := R rowsC[15] (List.getElem_mem _)
  obtain ⟨oc, od, dV, kV, doc, pm, an, cdv, ct, osl, rfl, lk, hcd, _, _⟩ := F.ex
  obtain ⟨c, rfl⟩ := He.codeIn_ref hcd
  have ec : (He.cT K ("_law_made_c", none)).1 = c := He.codeOf_eq lk rfl
  rw [ec] at TB
  have S := scMade 60 (by decide)
  refine fn_of lk hcd S (fun vs H Q E h => ?_) fun A outer s H vs Q E hr h => ?_
  · obtain ⟨x, y, z, rfl, _⟩ := h
    rfl
  · obtain ⟨x, y, z, rfl, hT, k⟩ := h
    refine ⟨tSeq (tAsg (tLst tNil) (gName 3)) (tApps P w K mg base T cad rowsC (tRet (tVar 3))), PSs.nox (pss_cons (ps_set (i := 3) S.nd rfl (Or.inl rfl) (pe_lst pa_nil))
      (pss_cons (ps_made1 (hNoCount) hr TB rfl hm hu rfl rfl (lamD1 ⟨rfl, rfl, rfl, by decide +kernel, rfl, by decide +kernel, by decide +kernel⟩ (Or.inl rfl) (fun _ _ _ _ us hl => match us, hl with | [_], _ => rfl)) rfl rfl (Or.inl rfl) (Or.inl rfl) (by rfl) (by decide) (by rfl))
      (pss_cons (ps_made1 (hNoEnd) hr TB rfl hm hu rfl rfl (lamD1 ⟨rfl, rfl, rfl, by decide +kernel, rfl, by decide +kernel, by decide +kernel⟩ (Or.inl rfl) (fun _ _ _ _ us hl => match us, hl with | [_], _ => rfl)) rfl rfl (Or.inl rfl) (Or.inl rfl) (by rfl) (by decide) (by rfl))
      (pss_cons (ps_made1 (hNoProc) hr TB rfl hm hu rfl rfl (lamD1 ⟨rfl, rfl, rfl, by decide +kernel, rfl, by decide +kernel, by decide +kernel⟩ (Or.inl rfl) (fun _ _ _ _ us hl => match us, hl with | [_], _ => rfl)) rfl rfl (Or.inl rfl) (Or.inl rfl) (by rfl) (by decide) (by rfl))
      (pss_cons (ps_made0 (hNoRoot) TB rfl hm hu rfl rfl (lamD0 ⟨rfl, rfl, rfl, by decide +kernel, rfl, by decide +kernel, by decide +kernel⟩ (fun _ _ _ _ us hl => match us, hl with | [_], _ => rfl)) rfl (Or.inl rfl) (by rfl) (by decide) (by rfl))
      (pss_cons (ps_made2 (hNoRule) eNoRule hr TB rfl hm hu rfl rfl (lamD2 ⟨rfl, rfl, rfl, by decide +kernel, rfl, by decide +kernel, by decide +kernel⟩ (Or.inl rfl) (fun _ _ _ _ us hl => match us, hl with | [_], _ => rfl)) rfl rfl rfl (Or.inl rfl) (Or.inl rfl) (Or.inl rfl) (by rfl) (by decide) (by rfl))
      (pss_cons (ps_made1 (hNoTalk) hr TB rfl hm hu rfl rfl (lamD1 ⟨rfl, rfl, rfl, by decide +kernel, rfl, by decide +kernel, by decide +kernel⟩ (Or.inl rfl) (fun _ _ _ _ us hl => match us, hl with | [_], _ => rfl)) rfl rfl (Or.inl rfl) (Or.inl rfl) (by rfl) (by decide) (by rfl))
      (pss_cons (ps_made1 (hNotAlike) hr TB rfl hm hu rfl rfl (lamD1 ⟨rfl, rfl, rfl, by decide +kernel, rfl, by decide +kernel, by decide +kernel⟩ (Or.inl rfl) (fun _ _ _ _ us hl => match us, hl with | [_], _ => rfl)) rfl rfl (Or.inl rfl) (Or.inl rfl) (by rfl) (by decide) (by rfl))
      (pss_cons (ps_made1 (hNotChecked) hr TB rfl hm hu rfl rfl (lamD1 ⟨rfl, rfl, rfl, by decide +kernel, rfl, by decide +kernel, by decide +kernel⟩ (Or.inl rfl) (fun _ _ _ _ us hl => match us, hl with | [_], _ => rfl)) rfl rfl (Or.inl rfl) (Or.inl rfl) (by rfl) (by decide) (by rfl))
      (pss_cons (ps_made0 (hNotClear) TB rfl hm hu rfl rfl (lamD0 ⟨rfl, rfl, rfl, by decide +kernel, rfl, by decide +kernel, by decide +kernel⟩ (fun _ _ _ _ us hl => match us, hl with | [_], _ => rfl)) rfl (Or.inl rfl) (by rfl) (by decide) (by rfl))
      (pss_cons (ps_made1 (hNotFinished) hr TB rfl hm hu rfl rfl (lamD1 ⟨rfl, rfl, rfl, by decide +kernel, rfl, by decide +kernel, by decide +kernel⟩ (Or.inl rfl) (fun _ _ _ _ us hl => match us, hl with | [_], _ => rfl)) rfl rfl (Or.inl rfl) (Or.inl rfl) (by rfl) (by decide) (by rfl))
      (pss_cons (ps_made1 (hNotPrime) hr TB rfl hm hu rfl rfl (lamD1 ⟨rfl, rfl, rfl, by decide +kernel, rfl, by decide +kernel, by decide +kernel⟩ (Or.inl rfl) (fun _ _ _ _ us hl => match us, hl with | [_], _ => rfl)) rfl rfl (Or.inl rfl) (Or.inl rfl) (by rfl) (by decide) (by rfl))
      (pss_cons (ps_made1 (hNotShortest) hr TB rfl hm hu rfl rfl (lamD1 ⟨rfl, rfl, rfl, by decide +kernel, rfl, by decide +kernel, by decide +kernel⟩ (Or.inl rfl) (fun _ _ _ _ us hl => match us, hl with | [_], _ => rfl)) rfl rfl (Or.inl rfl) (Or.inl rfl) (by rfl) (by decide) (by rfl))
      (pss_cons (ps_made1 (hNotSimple) hr TB rfl hm hu rfl rfl (lamD1 ⟨rfl, rfl, rfl, by decide +kernel, rfl, by decide +kernel, by decide +kernel⟩ (Or.inl rfl) (fun _ _ _ _ us hl => match us, hl with | [_], _ => rfl)) rfl rfl (Or.inl rfl) (Or.inl rfl) (by rfl) (by decide) (by rfl))
      (pss_cons (ps_made1 (hNotWatched) hr TB rfl hm hu rfl rfl (lamD1 ⟨rfl, rfl, rfl, by decide +kernel, rfl, by decide +kernel, by decide +kernel⟩ (Or.inl rfl) (fun _ _ _ _ us hl => match us, hl with | [_], _ => rfl)) rfl rfl (Or.inl rfl) (Or.inl rfl) (by rfl) (by decide) (by rfl))
      (pss_cons (ps_made2 (hStrangeRow) eStrangeRow hr TB rfl hm hu rfl rfl (lamD2 ⟨rfl, rfl, rfl, by decide +kernel, rfl, by decide +kernel, by decide +kernel⟩ (Or.inl rfl) (fun _ _ _ _ us hl => match us, hl with | [_], _ => rfl)) rfl rfl rfl (Or.inl rfl) (Or.inl rfl) (Or.inl rfl) (by rfl) (by decide) (by rfl))
      (pss_cons (ps_made2 (hWouldChange) eWouldChange hr TB rfl hm hu rfl rfl (lamD2 ⟨rfl, rfl, rfl, by decide +kernel, rfl, by decide +kernel, by decide +kernel⟩ (Or.inl rfl) (fun _ _ _ _ us hl => match us, hl with | [_], _ => rfl)) rfl rfl rfl (Or.inl rfl) (Or.inl rfl) (Or.inl rfl) (by rfl) (by decide) (by rfl))
      (pss_one (ps_ret (pv 3)))))))))))))))))))), ?_⟩
    refine ⟨Nat.zero_le _, fun Dl nD => ?_⟩
    refine made_chain (x := x) (y := y) (H0 := H) (Dl := Dl) rfl rfl rfl nD rowsC [] [] _ (by decide) (KpN.trans (Kp.n (Kp.new nD)) KpN.refl) upd_same (by decide) (Tabs.ext hT fun b o e => by rw [upd_ne (ne_of_none e nD)]; exact e) .nil ?_
    intro H' ts k1 hT1 hD1 m1
    exact ⟨_, rfl, k H' Dl ts (KpN.drop k1 nD) hT1 nD hD1 m1⟩
end
end K0
set_option maxHeartbeats 0
namespace K0
open PySem PySem.Spec PyProof.Rows L2 LamX
theorem HasE.kp {H H' : Hp} {a C D : Addr} {fs : List (Str × V)} {acc : List V} (e : HasE H a C fs) (k : Kp [D] H H') (hD : H D = some (.lst acc)) : HasE H' a C fs :=
  e.go fun b o q _ n => k b o q fun z => by
    rw [List.mem_singleton.mp z, hD] at q
    exact n _ (Option.some.inj q).symm
/-- two more answers are put in -/
def tExt (K : PySem.W.Frag) (C1 C2 : Addr) : TS := fun D σ H => ∃ (Dl a C : Addr) (fs : List (Str × V)) (acc : List V) (b1 b2 : Bool), σ[1]? = some (some (.ref Dl)) ∧ σ[0]? = some (some (.ref a)) ∧
  ErrK K C ∧ HasE H a C fs ∧ PySem.W.kitOne K (.ref C) (.ref C1) = some b1 ∧ PySem.W.kitOne K (.ref C) (.ref C2) = some b2 ∧ H Dl = some (.lst acc) ∧ acc.length < 100 ∧
  ∀ H', Kp [Dl] H H' → H' Dl = some (.lst (acc ++ [.bl b1, .bl b2])) → D.nx σ H'
def tExts (K : PySem.W.Frag) (cad : Str → Addr) : List Row → TS → TS
  | r :: r2 :: rs, te => tSeq (tExt K (cad r.nm) (cad r2.nm)) (tExts K cad rs te)
  | _, te => te
section
variable {X : Cx} {n1 n2 : Str} {C1 C2 : Addr} {p1 p2 p3 p4 p5 p6 p7 p8 p9 p10 p11 p12 p13 p14 p15 : Pos}
theorem ps_kinds2 (hi : X.mg "isinstance" = none) (g1 : X.mg n1 = some (.ref C1)) (g2 : X.mg n2 = some (.ref C2)) (hN0 : X.N[0]? = some ("_law_e" : Str)) (hN1 : X.N[1]? = some ("_law_found" : Str))
    (hv0 : Vis X.env.scope "_law_e") (hv1 : Vis X.env.scope "_law_found") (hg : Gl X "isinstance") (h1 : Gl X n1) (h2 : Gl X n2) (d1 : (n1 == ("__debug__" : Str)) = false) (d2 : (n2 == ("__debug__" : Str)) = false)
    (hln : (p2.endLine == p12.line) = true) :
    PS X (.Expr (.Call (.Attribute (.Name "_law_found" p1) "extend" p2) [.List [.Call (.Name "isinstance" p3) [.Name "_law_e" p4, .Name n1 p5] [] p6, .Call (.Name "isinstance" p7) [.Name "_law_e" p8, .Name n2 p9] [] p10] p11] [] p12) p13)
      (tExt X.K C1 C2) := by
  refine ps_imp (ps_expr (pe_bm PySem.F.plainAttrs_list PySem.F.slot_list_extend PySem.F.type_list_extend mt_extend (pe_var hN1 hv1)
    (pa_cons (pe_lst (pa_cons (pe_callB call_isO hg hi boot_isinstance (pa_cons (pe_var hN0 hv0) (pa_cons (pe_glob (v := .ref C1) h1 g1 rfl d1) pa_nil)))
      (pa_cons (pe_callB call_isO hg hi boot_isinstance (pa_cons (pe_var hN0 hv0) (pa_cons (pe_glob (v := .ref C2) h2 g2 rfl d2) pa_nil))) pa_nil))) pa_nil) (hline := hln))) fun D σ H h => ?_
  obtain ⟨Dl, a, C, fs, acc, b1, b2, s1, s0, E, he, k1, k2, hD, la, k⟩ := h
  obtain ⟨d, ha, hd, _⟩ := he
  refine ⟨_, s1, .inl ⟨rfl, _, SqL.of hD⟩, ?_⟩
  refine ⟨_, s0, a, C, d, .ref C1, .ref C1, b1, rfl, E, ha, fun dx z => ⟨fs, hd dx z⟩, .own C1, k1, ?_⟩
  refine ⟨_, s0, a, C, d, .ref C2, .ref C2, b2, rfl, E, ha, fun dx z => ⟨fs, hd dx z⟩, .own C2, k2, ?_⟩
  refine ⟨(show 2 ≤ sizeLine by decide), fun l nl => ?_⟩
  have ndl : Dl ≠ l := fun z => by rw [z, nl] at hD; cases hD
  refine ⟨Dl, l, acc, [.bl b1, .bl b2], rfl, rfl, by rw [upd_ne ndl]; exact hD, upd_same, Nat.le_trans (show acc.length + 2 ≤ 102 by omega) (by decide), ?_⟩
  exact k _ ((Kp.new nl).trans (Kp.put (by simp))) upd_same
end
section
variable {P : Program} {w : World} {K : PySem.W.Frag} {mg : Str → Option Value} {base : Heap} {cad : Str → Addr}
theorem kinds_chain {H0 : Hp} {Dl a C : Addr} {fs : List (Str × V)} {σ : L2.St} {te : TS} {D : Ends} {kb : Str → Bool} (s0 : σ[0]? = some (some (.ref a))) (s1 : σ[1]? = some (some (.ref Dl))) (E : ErrK K C) :
    ∀ (n : Nat) (rs : List Row) (acc : List V) (Hc : Hp), rs.length = 2 * n → (∀ r ∈ rs, PySem.W.kitOne K (.ref C) (.ref (cad r.nm)) = some (kb r.nm)) → HasE Hc a C fs → Kp [Dl] H0 Hc → Hc Dl = some (.lst acc) → acc.length + rs.length < 100 →
      (∀ H', Kp [Dl] H0 H' → H' Dl = some (.lst (acc ++ rs.map fun r => .bl (kb r.nm))) → te D σ H') → tExts K cad rs te D σ Hc
  | 0, rs, acc, Hc, hl, _, he, k, hD, la, e => by
    obtain rfl : rs = [] := List.eq_nil_of_length_eq_zero (by omega)
    exact e Hc k (by simpa using hD)
  | n + 1, rs, acc, Hc, hl, hk, he, k, hD, la, e => by
    match rs, hl with
    | r :: r2 :: rs, hl =>
      simp only [List.length_cons] at hl la
      refine ⟨Dl, a, C, fs, acc, kb r.nm, kb r2.nm, s1, s0, E, he, hk r (by simp), hk r2 (by simp), hD, by omega, fun H' k2 hD2 => ?_⟩
      refine kinds_chain s0 s1 E n rs _ H' (by omega) (fun q hq => hk q (by simp [hq])) (he.kp k2 hD) (k.trans k2) hD2 (by simp; omega) fun H2 k3 hD3 => e H2 k3 ?_
      simpa using hD3
/-- a def that tells of which of these an error is -/
def spKinds (K : PySem.W.Frag) (cad : Str → Addr) (rs : List Row) : Sp := fun vs H Q _ => ∃ (a C : Addr) (fs : List (Str × V)) (kb : Str → Bool), vs = [.ref a] ∧ ErrK K C ∧ HasE H a C fs ∧
  (∀ r ∈ rs, PySem.W.kitOne K (.ref C) (.ref (cad r.nm)) = some (kb r.nm)) ∧
  ∀ (H' : Hp) (p : Addr), Kp [] H H' → H p = none → H' p = some (.lst (rs.map fun r => .bl (kb r.nm))) → Q (.ref p) H'
abbrev nKinds : List Str := ["_law_e", "_law_found"]
theorem scKinds (i : Nat) (h : i = 61 ∨ i = 62 ∨ i = 63) : FnScope nKinds ["_law_e"] (defScope (top i)) := by
  rcases h with rfl | rfl | rfl <;> exact ⟨rfl, rfl, rfl, by decide +kernel, rfl, by decide +kernel, by decide +kernel⟩
end
end K0
set_option maxHeartbeats 0
namespace K0
open PySem PySem.Spec PyProof.Rows L2 LamX
section
variable {P : Program} {w : World} {K : PySem.W.Frag} {mg : Str → Option Value} {base : Heap} {cad : Str → Addr} {f : Addr} {fd : FuncData}
theorem ok_kinds_a (F : FnP K "_law_kinds_a" 61 f fd) (G : Glb mg) (R : ∀ r ∈ rowsA, mg r.nm = some (.ref (cad r.nm))) :
    FnOk P w K mg base CX0 1 f fd ["_law_e"] (spKinds K cad rowsA) := by
  have S := scKinds 61 (by decide)
  refine F.ok S (fun vs H Q E h => ?_) fun cdv A outer s H vs Q E hr h => ?_
  · obtain ⟨a, C, fs, kb, rfl, _⟩ := h
    rfl
  · obtain ⟨a, C, fs, kb, rfl, E, he, hk, k⟩ := h
    refine ⟨tSeq (tAsg (tLst tNil) (gName 1)) (tExts K cad rowsA (tRet (tVar 1))), PSs.nox (pss_cons (ps_set (i := 1) S.nd rfl (Or.inl rfl) (pe_lst pa_nil))
      (pss_cons (ps_kinds2 G.isin (R rowsA[0] (List.getElem_mem _)) (R rowsA[1] (List.getElem_mem _)) rfl rfl (Or.inl rfl) (Or.inl rfl) (by rfl) (by rfl) (by rfl) (by decide) (by decide) (by rfl))
      (pss_cons (ps_kinds2 G.isin (R rowsA[2] (List.getElem_mem _)) (R rowsA[3] (List.getElem_mem _)) rfl rfl (Or.inl rfl) (Or.inl rfl) (by rfl) (by rfl) (by rfl) (by decide) (by decide) (by rfl))
      (pss_cons (ps_kinds2 G.isin (R rowsA[4] (List.getElem_mem _)) (R rowsA[5] (List.getElem_mem _)) rfl rfl (Or.inl rfl) (Or.inl rfl) (by rfl) (by rfl) (by rfl) (by decide) (by decide) (by rfl))
      (pss_cons (ps_kinds2 G.isin (R rowsA[6] (List.getElem_mem _)) (R rowsA[7] (List.getElem_mem _)) rfl rfl (Or.inl rfl) (Or.inl rfl) (by rfl) (by rfl) (by rfl) (by decide) (by decide) (by rfl))
      (pss_cons (ps_kinds2 G.isin (R rowsA[8] (List.getElem_mem _)) (R rowsA[9] (List.getElem_mem _)) rfl rfl (Or.inl rfl) (Or.inl rfl) (by rfl) (by rfl) (by rfl) (by decide) (by decide) (by rfl))
      (pss_cons (ps_kinds2 G.isin (R rowsA[10] (List.getElem_mem _)) (R rowsA[11] (List.getElem_mem _)) rfl rfl (Or.inl rfl) (Or.inl rfl) (by rfl) (by rfl) (by rfl) (by decide) (by decide) (by rfl))
      (pss_cons (ps_kinds2 G.isin (R rowsA[12] (List.getElem_mem _)) (R rowsA[13] (List.getElem_mem _)) rfl rfl (Or.inl rfl) (Or.inl rfl) (by rfl) (by rfl) (by rfl) (by decide) (by decide) (by rfl))
      (pss_cons (ps_kinds2 G.isin (R rowsA[14] (List.getElem_mem _)) (R rowsA[15] (List.getElem_mem _)) rfl rfl (Or.inl rfl) (Or.inl rfl) (by rfl) (by rfl) (by rfl) (by decide) (by decide) (by rfl))
      (pss_cons (ps_kinds2 G.isin (R rowsA[16] (List.getElem_mem _)) (R rowsA[17] (List.getElem_mem _)) rfl rfl (Or.inl rfl) (Or.inl rfl) (by rfl) (by rfl) (by rfl) (by decide) (by decide) (by rfl))
      (pss_one (ps_ret (pv 1))))))))))))), ?_⟩
    refine ⟨Nat.zero_le _, fun Dl nD => ?_⟩
    refine kinds_chain (H0 := H) (Dl := Dl) (fs := fs) (kb := kb) rfl rfl E 9 rowsA [] _ rfl hk (he.go fun b o e _ _ => by rw [upd_ne (ne_of_none e nD)]; exact e) (Kp.new nD) upd_same (by decide) ?_
    intro H' k1 hD1
    exact ⟨_, rfl, k H' Dl (Kp.drop k1 nD) nD hD1⟩
end
section
variable {P : Program} {w : World} {K : PySem.W.Frag} {mg : Str → Option Value} {base : Heap} {cad : Str → Addr} {f : Addr} {fd : FuncData}
theorem ok_kinds_b (F : FnP K "_law_kinds_b" 62 f fd) (G : Glb mg) (R : ∀ r ∈ rowsB, mg r.nm = some (.ref (cad r.nm))) :
    FnOk P w K mg base CX0 1 f fd ["_law_e"] (spKinds K cad rowsB) := by
  have S := scKinds 62 (by decide)
  refine F.ok S (fun vs H Q E h => ?_) fun cdv A outer s H vs Q E hr h => ?_
  · obtain ⟨a, C, fs, kb, rfl, _⟩ := h
    rfl
  · obtain ⟨a, C, fs, kb, rfl, E, he, hk, k⟩ := h
    refine ⟨tSeq (tAsg (tLst tNil) (gName 1)) (tExts K cad rowsB (tRet (tVar 1))), PSs.nox (pss_cons (ps_set (i := 1) S.nd rfl (Or.inl rfl) (pe_lst pa_nil))
      (pss_cons (ps_kinds2 G.isin (R rowsB[0] (List.getElem_mem _)) (R rowsB[1] (List.getElem_mem _)) rfl rfl (Or.inl rfl) (Or.inl rfl) (by rfl) (by rfl) (by rfl) (by decide) (by decide) (by rfl))
      (pss_cons (ps_kinds2 G.isin (R rowsB[2] (List.getElem_mem _)) (R rowsB[3] (List.getElem_mem _)) rfl rfl (Or.inl rfl) (Or.inl rfl) (by rfl) (by rfl) (by rfl) (by decide) (by decide) (by rfl))
      (pss_cons (ps_kinds2 G.isin (R rowsB[4] (List.getElem_mem _)) (R rowsB[5] (List.getElem_mem _)) rfl rfl (Or.inl rfl) (Or.inl rfl) (by rfl) (by rfl) (by rfl) (by decide) (by decide) (by rfl))
      (pss_cons (ps_kinds2 G.isin (R rowsB[6] (List.getElem_mem _)) (R rowsB[7] (List.getElem_mem _)) rfl rfl (Or.inl rfl) (Or.inl rfl) (by rfl) (by rfl) (by rfl) (by decide) (by decide) (by rfl))
      (pss_cons (ps_kinds2 G.isin (R rowsB[8] (List.getElem_mem _)) (R rowsB[9] (List.getElem_mem _)) rfl rfl (Or.inl rfl) (Or.inl rfl) (by rfl) (by rfl) (by rfl) (by decide) (by decide) (by rfl))
      (pss_cons (ps_kinds2 G.isin (R rowsB[10] (List.getElem_mem _)) (R rowsB[11] (List.getElem_mem _)) rfl rfl (Or.inl rfl) (Or.inl rfl) (by rfl) (by rfl) (by rfl) (by decide) (by decide) (by rfl))
      (pss_cons (ps_kinds2 G.isin (R rowsB[12] (List.getElem_mem _)) (R rowsB[13] (List.getElem_mem _)) rfl rfl (Or.inl rfl) (Or.inl rfl) (by rfl) (by rfl) (by rfl) (by decide) (by decide) (by rfl))
      (pss_cons (ps_kinds2 G.isin (R rowsB[14] (List.getElem_mem _)) (R rowsB[15] (List.getElem_mem _)) rfl rfl (Or.inl rfl) (Or.inl rfl) (by rfl) (by rfl) (by rfl) (by decide) (by decide) (by rfl))
      (pss_cons (ps_kinds2 G.isin (R rowsB[16] (List.getElem_mem _)) (R rowsB[17] (List.getElem_mem _)) rfl rfl (Or.inl rfl) (Or.inl rfl) (by rfl) (by rfl) (by rfl) (by decide) (by decide) (by rfl))
      (pss_one (ps_ret (pv 1))))))))))))), ?_⟩
    refine ⟨Nat.zero_le _, fun Dl nD => ?_⟩
    refine kinds_chain (H0 := H) (Dl := Dl) (fs := fs) (kb := kb) rfl rfl E 9 rowsB [] _ rfl hk (he.go fun b o e _ _ => by rw [upd_ne (ne_of_none e nD)]; exact e) (Kp.new nD) upd_same (by decide) ?_
    intro H' k1 hD1
    exact ⟨_, rfl, k H' Dl (Kp.drop k1 nD) nD hD1⟩
end
section
variable {P : Program} {w : World} {K : PySem.W.Frag} {mg : Str → Option Value} {base : Heap} {cad : Str → Addr} {f : Addr} {fd : FuncData}
theorem ok_kinds_c (F : FnP K "_law_kinds_c" 63 f fd) (G : Glb mg) (R : ∀ r ∈ rowsC, mg r.nm = some (.ref (cad r.nm))) :
    FnOk P w K mg base CX0 1 f fd ["_law_e"] (spKinds K cad rowsC) := by
  have S := scKinds 63 (by decide)
  refine F.ok S (fun vs H Q E h => ?_) fun cdv A outer s H vs Q E hr h => ?_
  · obtain ⟨a, C, fs, kb, rfl, _⟩ := h
    rfl
  · obtain ⟨a, C, fs, kb, rfl, E, he, hk, k⟩ := h
    refine ⟨tSeq (tAsg (tLst tNil) (gName 1)) (tExts K cad rowsC (tRet (tVar 1))), PSs.nox (pss_cons (ps_set (i := 1) S.nd rfl (Or.inl rfl) (pe_lst pa_nil))
      (pss_cons (ps_kinds2 G.isin (R rowsC[0] (List.getElem_mem _)) (R rowsC[1] (List.getElem_mem _)) rfl rfl (Or.inl rfl) (Or.inl rfl) (by rfl) (by rfl) (by rfl) (by decide) (by decide) (by rfl))
      (pss_cons (ps_kinds2 G.isin (R rowsC[2] (List.getElem_mem _)) (R rowsC[3] (List.getElem_mem _)) rfl rfl (Or.inl rfl) (Or.inl rfl) (by rfl) (by rfl) (by rfl) (by decide) (by decide) (by rfl))
      (pss_cons (ps_kinds2 G.isin (R rowsC[4] (List.getElem_mem _)) (R rowsC[5] (List.getElem_mem _)) rfl rfl (Or.inl rfl) (Or.inl rfl) (by rfl) (by rfl) (by rfl) (by decide) (by decide) (by rfl))
      (pss_cons (ps_kinds2 G.isin (R rowsC[6] (List.getElem_mem _)) (R rowsC[7] (List.getElem_mem _)) rfl rfl (Or.inl rfl) (Or.inl rfl) (by rfl) (by rfl) (by rfl) (by decide) (by decide) (by rfl))
      (pss_cons (ps_kinds2 G.isin (R rowsC[8] (List.getElem_mem _)) (R rowsC[9] (List.getElem_mem _)) rfl rfl (Or.inl rfl) (Or.inl rfl) (by rfl) (by rfl) (by rfl) (by decide) (by decide) (by rfl))
      (pss_cons (ps_kinds2 G.isin (R rowsC[10] (List.getElem_mem _)) (R rowsC[11] (List.getElem_mem _)) rfl rfl (Or.inl rfl) (Or.inl rfl) (by rfl) (by rfl) (by rfl) (by decide) (by decide) (by rfl))
      (pss_cons (ps_kinds2 G.isin (R rowsC[12] (List.getElem_mem _)) (R rowsC[13] (List.getElem_mem _)) rfl rfl (Or.inl rfl) (Or.inl rfl) (by rfl) (by rfl) (by rfl) (by decide) (by decide) (by rfl))
      (pss_cons (ps_kinds2 G.isin (R rowsC[14] (List.getElem_mem _)) (R rowsC[15] (List.getElem_mem _)) rfl rfl (Or.inl rfl) (Or.inl rfl) (by rfl) (by rfl) (by rfl) (by decide) (by decide) (by rfl))
      (pss_one (ps_ret (pv 1)))))))))))), ?_⟩
    refine ⟨Nat.zero_le _, fun Dl nD => ?_⟩
    refine kinds_chain (H0 := H) (Dl := Dl) (fs := fs) (kb := kb) rfl rfl E 8 rowsC [] _ rfl hk (he.go fun b o e _ _ => by rw [upd_ne (ne_of_none e nD)]; exact e) (Kp.new nD) upd_same (by decide) ?_
    intro H' k1 hD1
    exact ⟨_, rfl, k H' Dl (Kp.drop k1 nD) nD hD1⟩
end
end K0
set_option maxHeartbeats 0
namespace K0
open PySem PySem.Spec PyProof.Rows L2 LamX
theorem HasE.kp0 {H H' : Hp} {a C : Addr} {fs : List (Str × V)} (e : HasE H a C fs) (k : Kp [] H H') : HasE H' a C fs := e.go fun b o q _ _ => k b o q (by simp)
theorem dpBls {K : PySem.W.Frag} {H : Hp} : ∀ bs : List Bool, DpAll K H (bs.map V.bl) (bs.map PyData.bool)
  | [] => .nil
  | b :: bs => .cons (.bl b) (dpBls bs)
theorem shLayB : ∀ bs : List Bool, PyData.canLayAll0 (bs.map PyData.bool) = true
  | [] => by simp [PyData.canLayAll0]
  | b :: bs => by simp [PyData.canLayAll0, PyData.canLay0, shLayB bs]
theorem shDeepB : ∀ bs : List Bool, PyData.depthAll (bs.map PyData.bool) ≤ 1
  | [] => by simp [PyData.depthAll]
  | b :: bs => by
    have := shDeepB bs
    simp only [List.map_cons, PyData.depthAll, PyData.depth]
    omega
theorem shBls (bs : List Bool) : SeqAt.shaped (.list (bs.map PyData.bool)) = true := by
  have h1 := shLayB bs
  have h2 := shDeepB bs
  have h3 : PyData.depth (.list (bs.map PyData.bool)) ≤ 64 := by
    simp only [PyData.depth]; omega
  simp [SeqAt.shaped, PyData.canLay0, h1, h3]
theorem eqvBls : ∀ bs : List Bool, PyData.eqvAll (bs.map PyData.bool) (bs.map PyData.bool) = true
  | [] => by simp [PyData.eqvAll]
  | b :: bs => by simp [PyData.eqvAll, PyData.eqv, eqvBls bs]
section
variable {P : Program} {w : World} {K : PySem.W.Frag} {mg : Str → Option Value} {base : Heap} {cad : Str → Addr} {f fA fB fC fK : Addr} {fd dA dB dC dK : FuncData}
abbrev nK1 : List Str := ["_law_e"]
theorem scK1 : FnScope nK1 ["_law_e"] (defScope (top 64)) := ⟨rfl, rfl, rfl, by decide +kernel, rfl, by decide +kernel, by decide +kernel⟩
theorem bind1 {x : Str} {i : Nat} {g : Addr} {d : FuncData} {p : Str} (F : FnP K x i g d) (h : ∀ (kV doc pm : Value) (an : Option Addr) (cdv ct : Value) (us : List Value), us.length = 1 →
    bindArgs (PySem.W.fnOf x x (defArgs (top i)) (defBody (top i)) (defScope (top i)) .none kV doc pm an cdv ct) ⟨us, []⟩ = pure (([p] : List Str).zip us)) : L2.Binds K d [p] [] := F.bindsN h
theorem ok_kinds (F : FnP K "_law_kinds" 64 f fd) (A : FnP K "_law_kinds_a" 61 fA dA) (B : FnP K "_law_kinds_b" 62 fB dB) (C : FnP K "_law_kinds_c" 63 fC dC) (G : Glb mg)
    (gA : mg "_law_kinds_a" = some (.ref fA)) (gB : mg "_law_kinds_b" = some (.ref fB)) (gC : mg "_law_kinds_c" = some (.ref fC)) (R : ∀ r ∈ rows, mg r.nm = some (.ref (cad r.nm))) :
    FnOk P w K mg base CX0 2 f fd ["_law_e"] (spKinds K cad rows) := by
  have OA : FnOk P w K mg base CX0 1 fA dA ["_law_e"] (spKinds K cad rowsA) := ok_kinds_a A G fun r h => R r (by simp [rows, h])
  have OB : FnOk P w K mg base CX0 1 fB dB ["_law_e"] (spKinds K cad rowsB) := ok_kinds_b B G fun r h => R r (by simp [rows, h])
  have OC : FnOk P w K mg base CX0 1 fC dC ["_law_e"] (spKinds K cad rowsC) := ok_kinds_c C G fun r h => R r (by simp [rows, h])
  have bA : L2.Binds K dA ["_law_e"] [] := bind1 A fun _ _ _ _ _ _ us hl => match us, hl with | [_], _ => rfl
  have bB : L2.Binds K dB ["_law_e"] [] := bind1 B fun _ _ _ _ _ _ us hl => match us, hl with | [_], _ => rfl
  have bC : L2.Binds K dC ["_law_e"] [] := bind1 C fun _ _ _ _ _ _ us hl => match us, hl with | [_], _ => rfl
  refine F.ok scK1 (fun vs H Q E h => ?_) fun cdv Ar outer s H vs Q E hr h => ?_
  · obtain ⟨a, C, fs, kb, rfl, _⟩ := h
    rfl
  · obtain ⟨a, D, fs, kb, rfl, E, he, hk, k⟩ := h
    refine ⟨_, PSs.nox (pss_one (ps_ret (pe_op op_cat (pe_op op_cat (pe_call OA hr rfl gA A.kp bA .nil pass0 (pa_cons (pv 0) pa_nil))
      (pe_call OB hr rfl gB B.kp bB .nil pass0 (pa_cons (pv 0) pa_nil))) (pe_call OC hr rfl gC C.kp bC .nil pass0 (pa_cons (pv 0) pa_nil))))), ?_⟩
    refine ⟨.ref a, rfl, a, D, fs, kb, rfl, E, he, fun r h => hk r (by simp [rows, h]), fun H1 p1 k1 n1 h1 => ?_⟩
    refine ⟨.ref a, rfl, a, D, fs, kb, rfl, E, he.kp0 k1, fun r h => hk r (by simp [rows, h]), fun H2 p2 k2 n2 h2 => ?_⟩
    refine ⟨p1, p2, _, _, rfl, rfl, k2 _ _ h1 (by simp), h2, ?_, fun p3 n3 => ?_⟩
    · rw [List.length_map, List.length_map]; exact (by decide : rowsA.length + rowsB.length ≤ sizeLine)
    have k3 : Kp [] H2 (upd H2 p3 (.lst ((rowsA.map fun r => .bl (kb r.nm)) ++ (rowsB.map fun r => .bl (kb r.nm))))) := Kp.new n3
    refine ⟨.ref a, rfl, a, D, fs, kb, rfl, E, ((he.kp0 k1).kp0 k2).kp0 k3, fun r h => hk r (by simp [rows, h]), fun H4 p4 k4 n4 h4 => ?_⟩
    refine ⟨p3, p4, _, _, rfl, rfl, k4 _ _ upd_same (by simp), h4, ?_, fun p5 n5 => ?_⟩
    · rw [List.length_append, List.length_map, List.length_map, List.length_map]; exact (by decide : rowsA.length + rowsB.length + rowsC.length ≤ sizeLine)
    have ka := (k1.trans k2).trans (k3.trans k4)
    refine k _ p5 (ka.trans (Kp.new n5)) ?_ (upd_same.trans ?_)
    · cases q : H p5 with
      | none => rfl
      | some o =>
        have z := ka _ _ q (by simp)
        rw [n5] at z
        cases z
    · simp [rows]
/-- whether an error is of its own class alone -/
def spOwn (K : PySem.W.Frag) (cad : Str → Addr) (T : Addr) : Sp := fun vs H Q _ => ∃ (a C : Addr) (fs : List (Str × V)) (i : Nat) (kb : Str → Bool), vs = [.ref a, .int i] ∧ ErrK K C ∧ HasE H a C fs ∧
  PySem.W.kitOne K (.ref C) (.ref T) = some true ∧ PySem.W.kitOne K (.ref C) (.type "ValueError") = some true ∧ PySem.W.kitOne K (.ref C) (.type "LookupError") = some false ∧
  (∀ r ∈ rows, PySem.W.kitOne K (.ref C) (.ref (cad r.nm)) = some (kb r.nm)) ∧ (rows.map fun r => kb r.nm) = (List.range 52).map (fun j => decide (j = i)) ∧
  ∀ H' : Hp, Kp [] H H' → Q (.bl true) H'
abbrev nOwn : List Str := ["_law_e", "_law_at", "_law_k"]
theorem scOwn : FnScope nOwn ["_law_e", "_law_at"] (defScope (top 65)) := ⟨rfl, rfl, rfl, by decide +kernel, rfl, by decide +kernel, by decide +kernel⟩
theorem ok_own {T : Addr} (F : FnP K "_law_is_own" 65 f fd) (A : FnP K "_law_kinds" 64 fK dK) (G : Glb mg) (O : FnOk P w K mg base CX0 2 fK dK ["_law_e"] (spKinds K cad rows))
    (gK : mg "_law_kinds" = some (.ref fK)) (gT : mg "TalkError" = some (.ref T)) :
    FnOk P w K mg base CX0 3 f fd ["_law_e", "_law_at"] (spOwn K cad T) := by
  have bK : L2.Binds K dK ["_law_e"] [] := bind1 A fun _ _ _ _ _ _ us hl => match us, hl with | [_], _ => rfl
  refine F.ok scOwn (fun vs H Q E h => ?_) fun cdv Ar outer s H vs Q E hr h => ?_
  · obtain ⟨a, C, fs, i, kb, rfl, _⟩ := h
    rfl
  · obtain ⟨a, C, fs, i, kb, rfl, E, he, e1, e2, e3, hk, hi, k⟩ := h
    refine ⟨_, PSs.nox (pss_cons (ps_if (PW.pt (pw_or (pt_not (pt_val (pe_callB call_isO (by rfl) G.isin boot_isinstance (pa_cons (pv 0) (pa_cons (pe_glob (v := .ref T) (by rfl) gT rfl) pa_nil)))))
        (pw_or (pt_not (pt_val (pe_callB call_isO (by rfl) G.isin boot_isinstance (pa_cons (pv 0) (pa_cons (pe_bltn (v := .ty "ValueError") (u := .type "ValueError") (by rfl) G.ve (by decide +kernel) rfl) pa_nil)))))
          (pw_or1 (pt_val (pe_callB call_isO (by rfl) G.isin boot_isinstance (pa_cons (pv 0) (pa_cons (pe_bltn (v := .ty "LookupError") (u := .type "LookupError") (by rfl) G.le (by decide +kernel) rfl) pa_nil))))))))
        (pss_one (ps_ret pe_bl)) pss_nil)
      (pss_one (ps_ret (pe_cmpR (op_eqD hr.units) (pe_call O hr rfl gK A.kp bK .nil pass0 (pa_cons (pv 0) pa_nil))
        (pe_lc (own := [("_law_k", 2)]) (g := gName 2) (tt := tYes) (te := tOp rEq (tVar 2) (tVar 1)) rfl scOwn.nd
          (pi_range1 rfl G.range (pa_cons pe_int pa_nil))
          (blkOk_by (N := nOwn) (sc := defScope (top 65)) (by decide +kernel))
          (fun _ _ _ _ _ => pg_name (i := 2) scOwn.nd rfl (Or.inl rfl)) (fun _ _ _ _ _ => pts_nil)
          (fun _ _ _ _ _ => pe_cmpR op_eq (pv 2) (pv 1) (nomark _))) (nomark _))))), ?_⟩
    obtain ⟨d, ha, hd, _⟩ := id he
    refine ⟨_, rfl, a, C, d, .ref T, .ref T, true, rfl, E, ha, fun dx z => ⟨fs, hd dx z⟩, .own T, e1, ?_⟩
    refine ⟨true, rfl, iteF ?_⟩
    refine ⟨_, rfl, a, C, d, .ty "ValueError", .type "ValueError", true, rfl, E, ha, fun dx z => ⟨fs, hd dx z⟩, .ty _, e2, ?_⟩
    refine ⟨true, rfl, iteF ?_⟩
    refine ⟨_, rfl, a, C, d, .ty "LookupError", .type "LookupError", false, rfl, E, ha, fun dx z => ⟨fs, hd dx z⟩, .ty _, e3, ?_⟩
    refine ⟨false, rfl, iteF ?_⟩
    refine ⟨.ref a, rfl, a, C, fs, kb, rfl, E, he, hk, fun H1 p1 k1 n1 h1 => ?_⟩
    refine ⟨_, rfl, by decide, by decide, fun D hD => ?_⟩
    refine lc_range (lo := 0) (n := 52) (fun j H' => H' D = some (.lst ((List.range j).map fun q => V.bl (decide (q = i)))) ∧ Kp [D] H1 H') ⟨upd_same, Kp.new hD⟩ ?_ ?_
    · rintro j H' hj ⟨h2, k2⟩
      refine ⟨rfl, ?_⟩
      unfold tYes; show (if true = true then _ else _); rw [if_pos rfl]
      refine ⟨_, rfl, _, rfl, ?_⟩
      refine ⟨rfl, _, h2, ?_, ?_, k2.trans (Kp.put (by simp))⟩
      · rw [List.length_map, List.length_range]; exact Nat.lt_of_lt_of_le hj (by decide)
      · have e : decide (V.int (0 + (j : Int)) = V.int (i : Int)) = decide (j = i) := by simp; omega
        rw [upd_same, List.range_succ, List.map_append]
        show some (HO.lst (_ ++ [V.bl (decide (V.int (0 + (j : Int)) = V.int (i : Int)))])) = _
        rw [e] <;> rfl
    · rintro H' ⟨h2, k2⟩
      have h1' : H' p1 = some (.lst ((rows.map fun r => kb r.nm).map V.bl)) := by
        rw [List.map_map]
        exact k2 _ _ h1 (by simp; exact fun z => by rw [z, hD] at h1; cases h1)
      have h2' : H' D = some (.lst ((rows.map fun r => kb r.nm).map V.bl)) := by
        rw [h2, hi, List.map_map] <;> rfl
      refine ⟨.list ((rows.map fun r => kb r.nm).map PyData.bool), .list ((rows.map fun r => kb r.nm).map PyData.bool), .lst (SqL.of h1') (dpBls _), .lst (SqL.of h2') (dpBls _), shBls _, shBls _, ?_⟩
      have e : PyData.eqv (.list ((rows.map fun r => kb r.nm).map PyData.bool)) (.list ((rows.map fun r => kb r.nm).map PyData.bool)) = true := by
        simp only [PyData.eqv, eqvBls]
      rw [e]
      exact k H' (k1.trans (k2.drop hD))
end
end K0
set_option maxHeartbeats 0
namespace K0
open PySem PySem.Spec PyProof.Rows L2 LamX
/-- a def's promise, kept where no object is within its own repr -/
structure OkG (P : Program) (w : World) (K : PySem.W.Frag) (mg : Str → Option Value) (base : Heap) (k : Nat) (f : Addr) (fd : FuncData) (ps : List Str) (sp : Sp) : Prop where
  ln : ∀ vs H Q E, sp vs H Q E → vs.length = ps.length
  go : ∀ (A : Around) (outer : List Env) (s : Shared) (H : Hp) (us : List Value) (vs : List V) (Q : VK), Room k A → A.guards = some [] → Env0 P w K mg base A outer s H →
    BindsTo s fd ⟨us, []⟩ (ps.zip us) → Vals vs us → sp vs H Q E0 → codeAny (model P w) A (.call (.ref f) ⟨us, []⟩) (CR CX0 outer P w H s Q E0) s
theorem okG_of {P : Program} {w : World} {K : PySem.W.Frag} {mg : Str → Option Value} {base : Heap} {x q : Str} {params : Arguments} {body : List Stmt} {scope : Scope} {dvs : List V} {kws : List (Str × V)} {f : Addr} {fd : FuncData}
    {N ps : List Str} {k : Nat} {sp : Sp} (F : FunD K x q params body scope dvs kws f fd) (S : FnScope N ps scope) (len : ∀ vs H Q E, sp vs H Q E → vs.length = ps.length)
    (hb : ∀ (cdv : Value) (A : Around) (outer : List Env) (s : Shared) (H : Hp) (vs : List V) (Q : VK), Room k (A.deeper (envOfC q scope s.heap.objs.size f cdv)) → (A.deeper (envOfC q scope s.heap.objs.size f cdv)).guards = some [] → sp vs H Q E0 →
      ∃ t, PSs (cxOf CX0 P w K mg base N q scope f cdv A outer s H E0) body t ∧ t { nx := fun _ H' => Q .non H', rt := Q } (L2.start N vs) H) : OkG P w K mg base (k + 1) f fd ps sp := by
  obtain ⟨oc, od, dV, kV, doc, pm, an, cdv, ct, osl, rfl, lk, hcd, _, _⟩ := F.ex
  exact ⟨len, fun A outer s H us vs Q hr hG e0 hbt r hsp => run_ofS lk hcd S hr e0 hbt r (len _ _ _ _ hsp) fun hr2 => hb cdv A outer s H vs Q hr2 hG hsp⟩
section
variable {X : Cx} {k : Nat} {f : Addr} {fd : FuncData} {ps : List Str} {sp : Sp} {x : Str} {p pos : Pos} {e : Expr} {es : List Expr} {t : TA}
theorem pe_callG (F : OkG X.prog X.w X.K X.mg X.base k f fd ps sp) (hr : Room k X.A) (hG : X.A.guards = some []) (hg : Gl X x) (hm : X.mg x = some (.ref f)) (hk : PySem.W.keepIn X.K (.ref f) = true) (hb : L2.Binds X.K fd ps [])
    (ha : PA X (e :: es) t) (hdb : (x == ("__debug__" : Str)) = false := by decide) (he : starEach (e :: es) X.env = (false, eval e X.env) :: starEach es X.env := by rfl)
    (hpl : (backTo pos (starEach es X.env)).any (·.1) = false := by rfl) : PE X (.Call (.Name x p) (e :: es) [] pos) (tCall sp [] E0 t) :=
  ⟨fun pins s σ H Q I h => wpAny_Call_Name_kw (ld_glob I hg hm (PySem.W.callWith_K (h₀ := X.base) I.ok.mod.kin hk
    (thn (ha.run pos pins s σ H _ I h) fun us s1 ⟨vs, H1, I1, r, q⟩ => ⟨I1.kIn, by
      have q' : sp (vs ++ []) H1 Q E0 := q
      rw [List.append_nil] at q'
      have lu : us.length = ps.length := r.length.symm.trans (F.ln _ _ _ _ q')
      have bd := hb s1 us I1.kIn (by rw [List.append_nil]; exact lu)
      rw [List.append_nil] at bd
      exact wpAny_call (codeAny_mono (F.go X.A X.stack s1 H1 us vs Q hr hG I1.env0 bd r q') fun z s2 hz => match z, hz with
        | .ok (.ret _), hz => I1.after hz)⟩) he hpl) hdb)⟩
end
section
variable {P : Program} {w : World} {K : PySem.W.Frag} {mg : Str → Option Value} {base : Heap} {f : Addr} {fd : FuncData}
/-- the texts of the things in both lists are the same -/
def spThese : Sp := fun vs H Q _ => ∃ (a b : Addr) (ys : List V) (ts : List Str) (as : List Addr) (n : Nat), vs = [.ref a, .ref b] ∧ H a = some (.lst ys) ∧ H b = some (.lst ys) ∧ Paired (TxN H n as) ys ts ∧
  a ∉ as ∧ b ∉ as ∧ n ≤ 20 ∧ (listText ts).length ≤ sizeLine ∧ Q (.bl true) H
abbrev nThese : List Str := ["_law_found", "_law_due"]
theorem scThese : FnScope nThese nThese (defScope (top 66)) := ⟨rfl, rfl, rfl, by decide +kernel, rfl, by decide +kernel, by decide +kernel⟩
theorem ok_these (F : FnP K "_law_are_these" 66 f fd) (G : Glb mg) : OkG P w K mg base 1 f fd ["_law_found", "_law_due"] spThese := by
  refine okG_of F scThese (fun vs H Q E h => ?_) fun cdv A outer s H vs Q hr hG h => ?_
  · obtain ⟨a, b, ys, ts, as, n, rfl, _⟩ := h
    rfl
  · obtain ⟨a, b, ys, ts, as, n, rfl, ha, hb, hp, na, nb, ln, lz, k⟩ := h
    refine ⟨_, PSs.nox (pss_one (ps_ret (pe_and (pe_cmpR op_eq (pe_callB (call_reprL hG hr.units) (by rfl) G.repr boot_repr (pa_cons (pv 0) pa_nil)) (pe_callB (call_reprL hG hr.units) (by rfl) G.repr boot_repr (pa_cons (pv 1) pa_nil)) (nomark _))
      (pe_one (pe_cmpR op_eq (pe_callB call_len_seq (by rfl) G.len PySem.boot_len (pa_cons (pv 0) pa_nil)) (pe_callB call_len_seq (by rfl) G.len PySem.boot_len (pa_cons (pv 1) pa_nil)) (nomark _)))))), ?_⟩
    refine ⟨_, rfl, a, ys, ts, as, n, rfl, ha, hp, na, ln, lz, ?_⟩
    refine ⟨_, rfl, b, ys, ts, as, n, rfl, hb, hp, nb, ln, lz, ?_⟩
    refine ⟨rfl, true, by simp, iteT ?_⟩
    refine ⟨_, rfl, a, ys, rfl, .inl (SqL.of ha), ?_⟩
    refine ⟨_, rfl, b, ys, rfl, .inl (SqL.of hb), ?_⟩
    refine ⟨rfl, ?_⟩
    simpa using k
end
end K0
set_option maxHeartbeats 0
namespace K0
open PySem PySem.Spec PyProof.Rows L2 LamX
/-- what is known of a row's class, for the questions that the law asks -/
structure ClsK (K : PySem.W.Frag) (cad : Str → Addr) (TE : Addr) (r : Row) : Prop where
  E : ErrK K (cad r.nm)
  no : ∀ f ∈ r.ps, PySem.W.findIn K (.ref (cad r.nm)) f = some none
  kT : PySem.W.kitOne K (.ref (cad r.nm)) (.ref TE) = some true
  kV : PySem.W.kitOne K (.ref (cad r.nm)) (.type "ValueError") = some true
  kL : PySem.W.kitOne K (.ref (cad r.nm)) (.type "LookupError") = some false
  kk : ∀ q ∈ rows, PySem.W.kitOne K (.ref (cad r.nm)) (.ref (cad q.nm)) = some (decide (q.nm = r.nm))
theorem rowsApart : ∀ i : Fin 52, (rows.map fun q => decide (q.nm = (rows[i.1]'(by have := i.2; exact Nat.lt_of_lt_of_le this (by decide))).nm)) = (List.range 52).map (fun j => decide (j = i.1)) := by decide +kernel
/-- objects that stay: none of them is a table -/
def Solid (H : Hp) (as : List Addr) : Prop := ∀ a ∈ as, ∃ o, H a = some o ∧ ∀ ps, o ≠ .tbl ps
theorem Solid.go {H H' : Hp} {as S : List Addr} (s : Solid H as) (k : KpN S H H') (n : ∀ a ∈ as, a ∉ S) : Solid H' as := fun a h => by
  obtain ⟨o, e, t⟩ := s a h
  exact ⟨o, k a o e (n a h) t, t⟩
/-- the text of v is known -/
def Txt (H : Hp) (as : List Addr) (v : V) : Prop := ∃ t : Str, TxN H 3 as v t ∧ t.length ≤ 60
theorem Txt.go {H H' : Hp} {as S : List Addr} {v : V} (x : Txt H as v) (s : Solid H as) (k : KpN S H H') (n : ∀ a ∈ as, a ∉ S) : Txt H' as v := by
  obtain ⟨t, h, l⟩ := x
  refine ⟨t, h.same 3 as v t fun a ha o e => ?_, l⟩
  obtain ⟨o2, e2, t2⟩ := s a ha
  rw [e] at e2
  cases e2
  exact k a o e (n a ha) t2
theorem listLen : ∀ (ts : List Str) (k : Nat) (acc : Str), (∀ t ∈ ts, t.length ≤ 60) → (textFrom k acc ts).length ≤ acc.length + 62 * ts.length
  | [], k, acc, _ => Nat.le_refl _
  | t :: r, k, acc, h => by
    have q := listLen r (k + 1) (acc ++ (if k > 0 then ", " else "" : String) ++ t) fun u hu => h u (by simp [hu])
    have ht := h t (by simp)
    have e2 : ((if k > 0 then ", " else "" : String) : Str).length ≤ 2 := by split <;> decide
    have e : (acc ++ (if k > 0 then ", " else "" : String) ++ t).length = acc.length + ((if k > 0 then ", " else "" : String) : Str).length + t.length := by rw [strLen_append, strLen_append]
    rw [e] at q
    simp only [List.length_cons]
    refine Nat.le_trans q ?_
    omega
theorem texts_of {H : Hp} {as : List Addr} : ∀ {vs : List V}, (∀ v ∈ vs, Txt H as v) → ∃ ts : List Str, Paired (TxN H 3 as) vs ts ∧ (∀ t ∈ ts, t.length ≤ 60) ∧ ts.length = vs.length
  | [], _ => ⟨[], .nil, by simp, rfl⟩
  | v :: vs, h => by
    obtain ⟨t, h1, l1⟩ := h v (by simp)
    obtain ⟨ts, h2, l2, l3⟩ := texts_of (vs := vs) fun u hu => h u (by simp [hu])
    exact ⟨t :: ts, .cons h1 h2, by simpa using ⟨l1, l2⟩, by simp [l3]⟩
section
variable {P : Program} {w : World} {K : PySem.W.Frag} {mg : Str → Option Value} {base : Heap} {cad : Str → Addr} {TE : Addr}
theorem flds {σ : L2.St} {H : Hp} {a C : Addr} {fs : List (Str × V)} (E : ErrK K C) (s0 : σ[0]? = some (some (.ref a))) (he : HasE H a C fs) : ∀ (ps : List Str) (vs : List V), (∀ f ∈ ps, PySem.W.findIn K (.ref C) f = some none) →
    ps.map (fun f => List.lookup f fs) = vs.map some → ∀ R : List V → Hp → Prop, R vs H → (ps.foldr (fun f t => tCons (tOexF K f (tVar 0)) t) tNil) σ H R
  | [], vs, _, l, R, h => by
    cases vs with
    | nil => exact h
    | cons v vs => cases l
  | f :: ps, vs, no, l, R, h => by
    cases vs with
    | nil => cases l
    | cons v vs =>
      simp only [List.map_cons, List.cons.injEq] at l
      obtain ⟨d, h1, h2, h3⟩ := id he
      cases d with
      | none =>
        rw [h3 rfl] at l
        exact absurd l.1 (by simp [List.lookup])
      | some dx =>
        exact ⟨_, s0, a, C, dx, fs, v, rfl, E, no f (by simp), h1, h2 dx rfl, l.1, flds E s0 he ps vs (fun g hg => no g (by simp [hg])) l.2 (fun xs H2 => R (v :: xs) H2) h⟩
/-- one question about an own error -/
theorem own_ask {σ : L2.St} {H : Hp} {a : Addr} {fs : List (Str × V)} {i j : Nat} (hi : i < 52) (c : ClsK K cad TE (rows[i]'(Nat.lt_of_lt_of_le hi (by decide)))) (he : HasE H a (cad (rows[i]'(Nat.lt_of_lt_of_le hi (by decide))).nm) fs)
    (sj : σ[j]? = some (some (.ref a))) (s8 : σ[8]? = some (some (.int i))) {Q : VK} (h : ∀ H', Kp [] H H' → Q (.bl true) H') :
    tCall (spOwn K cad TE) [] E0 (tCons (tVar j) (tCons (tVar 8) tNil)) σ H Q :=
  ⟨_, sj, _, s8, a, _, fs, i, fun n => decide (n = (rows[i]'(Nat.lt_of_lt_of_le hi (by decide))).nm), rfl, c.E, he, c.kT, c.kV, c.kL, c.kk, rowsApart ⟨i, hi⟩, h⟩
/-- one look at what an own error keeps -/
theorem these_ask {σ : L2.St} {H : Hp} {a l d c C : Addr} {fs : List (Str × V)} {j : Nat} {vs : List V} {ps : List Str} {as : List Addr} {q : Str} {params : Arguments} {body : Expr} {scope : Scope} (E : ErrK K C)
    (no : ∀ f ∈ ps, PySem.W.findIn K (.ref C) f = some none) (he : HasE H a C fs) (lv : ps.map (fun f => List.lookup f fs) = vs.map some) (hl : H l = some (LamO l q params body scope c)) (hc : H c = some (CodeO c q))
    (LD : LamD P w K mg base 0 params body scope ["_law_e"] ["_law_e"] (tbOf K ps)) (hd : H d = some (.lst vs)) (l2 : vs.length ≤ 2) (so : Solid H as) (tx : ∀ v ∈ vs, Txt H as v) (nd : d ∉ as)
    (sj : σ[j]? = some (some (.ref a))) (s11 : σ[11]? = some (some (.ref l))) (s12 : σ[12]? = some (some (.ref d))) {Q : VK} (h : ∀ H', Kp [] H H' → Q (.bl true) H') :
    tCall spThese [] E0 (tCons (tCallLam P w K mg base 0 11 (tCons (tVar j) tNil)) (tCons (tVar 12) tNil)) σ H Q := by
  refine ⟨l, s11, ⟨q, params, body, scope, c, hl⟩, _, sj, params, body, scope, ["_law_e"], ["_law_e"], tbOf K ps, c, q, LD, rfl, hl, hc, ?_⟩
  refine flds E rfl he ps vs no lv _ ⟨Nat.le_trans l2 (by decide), fun p np => ?_⟩
  have kp : Kp [] H (upd H p (.lst vs)) := Kp.new np
  have np2 : p ∉ as := fun z => by
    obtain ⟨o, e, _⟩ := so p z
    rw [np] at e; cases e
  obtain ⟨ts, h1, h2, h3⟩ := texts_of fun v hv => (tx v hv).go so kp.n (by simp)
  refine ⟨_, s12, p, d, vs, ts, as, 3, rfl, upd_same, kp _ _ hd (by simp), h1, np2, nd, by decide, ?_, h _ kp⟩
  have z := listLen ts 0 "[" h2
  have e : (listText ts).length = (textFrom 0 "[" ts).length + 1 := strLen_append _ _
  rw [e]
  have e1 : (("[" : String) : Str).length = 1 := by decide
  rw [e1, h3] at z
  exact Nat.le_trans (show _ ≤ 126 by omega) (by decide)
end
end K0
set_option maxHeartbeats 0
namespace K0
open PySem PySem.Spec PyProof.Rows L2 LamX
theorem pairAt {α β : Type} {F : α → β → Prop} : ∀ {l1 : List α} {l2 : List β}, Paired F l1 l2 → ∀ (i : Nat) (a : α), l1[i]? = some a → ∃ b, l2[i]? = some b ∧ F a b
  | _, _, .nil, i, a, h => by simp at h
  | _, _, .cons h1 h2, 0, a, h => by
    simp only [List.getElem?_cons_zero, Option.some.injEq] at h
    subst h
    exact ⟨_, rfl, h1⟩
  | _, _, .cons h1 h2, i + 1, a, h => pairAt h2 i a (by simpa using h)
section
variable (P : Program) (w : World) (K : PySem.W.Frag) (mg : Str → Option Value) (base : Heap) (cad : Str → Addr) (TE : Addr)
def tI (j : Nat) : L2.TE := tCall (spOwn K cad TE) [] E0 (tCons (tVar j) (tCons (tVar 8) tNil))
def tTh (j : Nat) : L2.TE := tCall spThese [] E0 (tCons (tCallLam P w K mg base 0 11 (tCons (tVar j) tNil)) (tCons (tVar 12) tNil))
def tRF : TS := tRet (tC (.bl false))
def tT1 : TS := tIfS (tOr (tNot (tB (tI K cad TE 9))) (tNot (tB (tI K cad TE 10)))) tRF tNext
def tT2 : TS := tIfS (tOr (tNot (tB (tTh P w K mg base 9))) (tNot (tB (tTh P w K mg base 10)))) tRF tNext
def gFour : TG := gTup K 4 (gCons (gName 9) (gCons (gName 10) (gCons (gName 11) (gCons (gName 12) gNil))))
def gEnum : TG := gTup K 2 (gCons (gName 8) (gCons (gFour K) gNil))
def loop1 : TS := tFor (iEnum K (tCons (tVar 7) tNil)) (gEnum K) (tSeq (tT1 K cad TE) (tT2 P w K mg base))
def loop2 : TS := tFor (iList K (tVar 7)) (gFour K) (tT2 P w K mg base)
end
def Same (σ σ' : L2.St) : Prop := σ'.length = 15 ∧ ∀ j, j < 8 ∨ j = 13 → σ'[j]? = σ[j]?
theorem Same.set {σ σ' : L2.St} {i : Nat} {v : Option V} (s : Same σ σ') (h1 : 8 ≤ i) (h2 : i ≠ 13) : Same σ (σ'.set i v) :=
  ⟨by rw [List.length_set]; exact s.1, fun j hj => by
    rw [List.getElem?_set_ne (by omega)]
    exact s.2 j hj⟩
section
variable {P : Program} {w : World} {K : PySem.W.Frag} {mg : Str → Option Value} {base : Heap} {cad : Str → Addr} {TE : Addr}
/-- the second test, of one of the tuples -/
theorem t2_ok {σ : L2.St} {H : Hp} {D : Ends} {r : Row} {vs : List V} {as : List Addr} {a b l d c : Addr} {fa fb : List (Str × V)} {q : Str} {params : Arguments} {body : Expr} {scope : Scope} (cl : ClsK K cad TE r)
    (ha : HasE H a (cad r.nm) fa) (hb : HasE H b (cad r.nm) fb) (la : r.ps.map (fun f => List.lookup f fa) = vs.map some) (lb : r.ps.map (fun f => List.lookup f fb) = vs.map some)
    (hl : H l = some (LamO l q params body scope c)) (hc : H c = some (CodeO c q)) (LD : LamD P w K mg base 0 params body scope ["_law_e"] ["_law_e"] (tbOf K r.ps)) (hd : H d = some (.lst vs)) (l2 : vs.length ≤ 2)
    (so : Solid H as) (tx : ∀ v ∈ vs, Txt H as v) (nd : d ∉ as) (s9 : σ[9]? = some (some (.ref a))) (s10 : σ[10]? = some (some (.ref b))) (s11 : σ[11]? = some (some (.ref l))) (s12 : σ[12]? = some (some (.ref d)))
    (h : ∀ H', Kp [] H H' → D.nx σ H') : tT2 P w K mg base D σ H := by
  refine these_ask cl.E cl.no ha la hl hc LD hd l2 so tx nd s9 s11 s12 (fun H1 k1 => ⟨true, rfl, iteF ?_⟩)
  refine these_ask cl.E cl.no (hb.kp0 k1) lb (k1 _ _ hl (by simp)) (k1 _ _ hc (by simp)) LD (k1 _ _ hd (by simp)) l2 (so.go k1.n (by simp)) (fun v hv => (tx v hv).go so k1.n (by simp)) nd s10 s11 s12 (fun H2 k2 => ⟨true, rfl, iteF ?_⟩)
  exact h H2 (k1.trans k2)
theorem Made.kp {H H' : Hp} {fr : Addr → Prop} {C : Addr} {ps : List Str} {vs : List V} {t : V} (m : Made P w K mg base H fr C ps vs t) (k : Kp [] H H') : Made P w K mg base H' fr C ps vs t :=
  m.go (fun b o e _ _ => k b o e (by simp)) fun d f xs e => ⟨k d _ e (by simp), f⟩
theorem loop1_ok {σ : L2.St} {H : Hp} {D : Ends} {x y : V} {md : Addr} {ts : List V} {fr : Addr → Prop} {as : List Addr} (ln : σ.length = 15) (s7 : σ[7]? = some (some (.ref md))) (hmd : H md = some (.lst ts))
    (m : Mades P w K mg base cad x y H fr rows ts) (frd : ∀ d, fr d → d ∉ as) (so : Solid H as) (tx : Txt H as x) (ty : Txt H as y) (cl : ∀ r ∈ rows, ClsK K cad TE r)
    (h : ∀ σ' H', Same σ σ' → Kp [] H H' → D.nx σ' H') : loop1 P w K mg base cad TE D σ H := by
  have lts : ts.length = 52 := m.length.symm
  refine ⟨_, s7, md, ts, rfl, SqL.of hmd, fun i n σ' H' => n = 52 - i ∧ i ≤ 52 ∧ Same σ σ' ∧ Kp [] H H', ⟨52, rfl, Nat.zero_le _, ⟨ln, fun _ _ => rfl⟩, fun b o e _ => e⟩, ?_⟩
  rintro i n σ1 H1 ⟨rfl, hi, S1, k1⟩
  have hq : SqL K H1 md ts := SqL.of (k1 _ _ hmd (by simp))
  by_cases hlt : i < 52
  · have ir : i < rows.length := Nat.lt_of_lt_of_le hlt (by decide)
    obtain ⟨t, e1, mt⟩ := pairAt m i rows[i] (List.getElem?_eq_getElem ir)
    refine .inr ⟨⟨ts, t, hq, e1⟩, fun σ' H' => Same σ σ' ∧ Kp [] H H', fun σ' H' p => ⟨52 - (i + 1), by omega, rfl, hlt, p⟩, ?_⟩
    rintro _ _ ⟨T, t', rfl, nT, rfl, hx⟩
    have e2 := hx ts hq
    rw [e1] at e2
    cases e2
    have k2 : Kp [] H (upd H1 T (.tup [.int (i : Nat), t])) := k1.trans (Kp.new nT)
    obtain ⟨tp, a, b, l, d, c, q, params, body, scope, fa, fb, rfl, h1, h2, h3, h4, h5, h6, h7, h8, h9, h10⟩ := mt.kp k2
    refine ⟨T, _, rfl, SqT.of upd_same, rfl, _, _, rfl, _, _, rfl, ⟨tp, _, rfl, SqT.of h1, rfl, _, _, rfl, _, _, rfl, _, _, rfl, _, _, rfl, rfl, rfl, ?_⟩⟩
    have L1 : σ1.length = 15 := S1.1
    have ss : ∀ (v8 v9 v10 v11 v12 : Option V), ((((((σ1.set 8 v8).set 9 v9).set 10 v10).set 11 v11).set 12 v12)[8]? = some v8) ∧ ((((((σ1.set 8 v8).set 9 v9).set 10 v10).set 11 v11).set 12 v12)[9]? = some v9) ∧
        ((((((σ1.set 8 v8).set 9 v9).set 10 v10).set 11 v11).set 12 v12)[10]? = some v10) ∧ ((((((σ1.set 8 v8).set 9 v9).set 10 v10).set 11 v11).set 12 v12)[11]? = some v11) ∧
        ((((((σ1.set 8 v8).set 9 v9).set 10 v10).set 11 v11).set 12 v12)[12]? = some v12) := fun v8 v9 v10 v11 v12 => by
      refine ⟨?_, ?_, ?_, ?_, ?_⟩ <;> simp [List.getElem?_set, L1]
    obtain ⟨s8, s9, s10, s11, s12⟩ := ss (some (.int (i : Nat))) (some (.ref a)) (some (.ref b)) (some (.ref l)) (some (.ref d))
    have c1 := cl rows[i] (List.getElem_mem _)
    have S2 : Same σ (((((σ1.set 8 (some (.int (i : Nat)))).set 9 (some (.ref a))).set 10 (some (.ref b))).set 11 (some (.ref l))).set 12 (some (.ref d))) :=
      ((((S1.set (by decide) (by decide)).set (by decide) (by decide)).set (by decide) (by decide)).set (by decide) (by decide)).set (by decide) (by decide)
    refine own_ask hlt c1 h2 s9 s8 (fun H3 k3 => ⟨true, rfl, iteF ?_⟩)
    refine own_ask hlt c1 (h3.kp0 k3) s10 s8 (fun H4 k4 => ⟨true, rfl, iteF ?_⟩)
    have k5 := k3.trans k4
    refine t2_ok (cad := cad) c1 (h2.kp0 k5) (h3.kp0 k5) h4 h5 (k5 _ _ h6 (by simp)) (k5 _ _ h7 (by simp)) h8 (k5 _ _ h9 (by simp)) (by rw [List.length_take]; exact Nat.min_le_right _ _) (so.go (k2.trans k5).n (by simp)) (fun v hv => ?_) (frd d h10) s9 s10 s11 s12
      (fun H6 k6 => ⟨S2, k2.trans (k5.trans k6)⟩)
    have hv2 := List.mem_of_mem_take hv
    have hv3 : v = x ∨ v = y := by simpa using hv2
    rcases hv3 with rfl | rfl
    · exact tx.go so (k2.trans k5).n (by simp)
    · exact ty.go so (k2.trans k5).n (by simp)
  · refine .inl ⟨⟨ts, hq, by omega⟩, h σ1 H1 S1 k1⟩
theorem loop2_ok {σ : L2.St} {H : Hp} {D : Ends} {x y : V} {md : Addr} {ts : List V} {fr : Addr → Prop} {as : List Addr} (ln : σ.length = 15) (s7 : σ[7]? = some (some (.ref md))) (hmd : H md = some (.lst ts))
    (m : Mades P w K mg base cad x y H fr rows ts) (frd : ∀ d, fr d → d ∉ as) (so : Solid H as) (tx : Txt H as x) (ty : Txt H as y) (cl : ∀ r ∈ rows, ClsK K cad TE r)
    (h : ∀ σ' H', Same σ σ' → Kp [] H H' → D.nx σ' H') : loop2 P w K mg base D σ H := by
  have lts : ts.length = 52 := m.length.symm
  refine ⟨_, s7, md, rfl, ⟨ts, SqL.of hmd⟩, fun i n σ' H' => n = 52 - i ∧ i ≤ 52 ∧ Same σ σ' ∧ Kp [] H H', ⟨52, rfl, Nat.zero_le _, ⟨ln, fun _ _ => rfl⟩, fun b o e _ => e⟩, ?_⟩
  rintro i n σ1 H1 ⟨rfl, hi, S1, k1⟩
  have hq : SqL K H1 md ts := SqL.of (k1 _ _ hmd (by simp))
  by_cases hlt : i < 52
  · have ir : i < rows.length := Nat.lt_of_lt_of_le hlt (by decide)
    obtain ⟨t, e1, mt⟩ := pairAt m i rows[i] (List.getElem?_eq_getElem ir)
    refine .inr ⟨⟨ts, t, hq, e1⟩, fun σ' H' => Same σ σ' ∧ Kp [] H H', fun σ' H' p => ⟨52 - (i + 1), by omega, rfl, hlt, p⟩, ?_⟩
    rintro t' _ ⟨rfl, hx⟩
    have e2 := hx ts hq
    rw [e1] at e2
    cases e2
    obtain ⟨tp, a, b, l, d, c, q, params, body, scope, fa, fb, rfl, h1, h2, h3, h4, h5, h6, h7, h8, h9, h10⟩ := mt.kp k1
    refine ⟨tp, _, rfl, SqT.of h1, rfl, _, _, rfl, _, _, rfl, _, _, rfl, _, _, rfl, rfl, ?_⟩
    have L1 : σ1.length = 15 := S1.1
    have ss : ∀ (v9 v10 v11 v12 : Option V), (((((σ1.set 9 v9).set 10 v10).set 11 v11).set 12 v12)[9]? = some v9) ∧
        (((((σ1.set 9 v9).set 10 v10).set 11 v11).set 12 v12)[10]? = some v10) ∧ (((((σ1.set 9 v9).set 10 v10).set 11 v11).set 12 v12)[11]? = some v11) ∧
        (((((σ1.set 9 v9).set 10 v10).set 11 v11).set 12 v12)[12]? = some v12) := fun v9 v10 v11 v12 => by
      refine ⟨?_, ?_, ?_, ?_⟩ <;> simp [List.getElem?_set, L1]
    obtain ⟨s9, s10, s11, s12⟩ := ss (some (.ref a)) (some (.ref b)) (some (.ref l)) (some (.ref d))
    have c1 := cl rows[i] (List.getElem_mem _)
    have S2 : Same σ ((((σ1.set 9 (some (.ref a))).set 10 (some (.ref b))).set 11 (some (.ref l))).set 12 (some (.ref d))) :=
      (((S1.set (by decide) (by decide)).set (by decide) (by decide)).set (by decide) (by decide)).set (by decide) (by decide)
    refine t2_ok (cad := cad) c1 h2 h3 h4 h5 h6 h7 h8 h9 (by rw [List.length_take]; exact Nat.min_le_right _ _) (so.go k1.n (by simp)) (fun v hv => ?_) (frd d h10) s9 s10 s11 s12
      (fun H6 k6 => ⟨S2, k1.trans k6⟩)
    have hv2 := List.mem_of_mem_take hv
    have hv3 : v = x ∨ v = y := by simpa using hv2
    rcases hv3 with rfl | rfl
    · exact tx.go so k1.n (by simp)
    · exact ty.go so k1.n (by simp)
  · refine .inl ⟨⟨ts, hq, by omega⟩, h σ1 H1 S1 k1⟩
end
end K0
set_option maxHeartbeats 0
namespace K0
open PySem PySem.Spec PyProof.Rows L2 LamX
/-- the law's things -/
def someV (a1 a2 a3 a5 a6 : Addr) : List V := [.non, .int 5, .int (-1), .bl true, .str "a", .str "", .ref a1, .ref a2, .ref a3, .ref a5, .int ((10 : Int) ^ (30 : Int).toNat), .ref a6, .bl false, .int 0, .int 1]
theorem txLeaf {H : Hp} {as : List Addr} {v : V} {t : Str} (h : leafT v t) (l : t.length ≤ 60) : Txt H as v := ⟨t, .inl h, l⟩
theorem some_fin {H1 h1 h2 h3 h4 h5 h6 h7 : Hp} {a1 a2 a3 a4 a5 a6 a7 : Addr} (n1 : H1 a1 = none) (e1 : h1 = upd H1 a1 (.lst [.int 1, .str "b"])) (n2 : h1 a2 = none) (e2 : h2 = upd h1 a2 (.tup [.int 2, .non]))
    (n3 : h2 a3 = none) (e3 : h3 = upd (upd h2 a3 (.dK [])) a3 (.dK (mergeK [] [(Sum.inr "a", .int 1)]))) (n4 : h3 a4 = none) (e4 : h4 = upd h3 a4 (.lst [.str "x"])) (n5 : h4 a5 = none) (e5 : h5 = upd h4 a5 (.lst [.ref a4]))
    (n6 : h5 a6 = none) (e6 : h6 = upd h5 a6 (.tup [.str "s", .int 3])) (n7 : h6 a7 = none) (e7 : h7 = upd h6 a7 (.lst (someV a1 a2 a3 a5 a6))) :
    Kp [] H1 h7 ∧ Solid h7 [a1, a2, a3, a4, a5, a6] ∧ (∀ v ∈ someV a1 a2 a3 a5 a6, Txt h7 [a1, a2, a3, a4, a5, a6] v) ∧ h7 a7 = some (.lst (someV a1 a2 a3 a5 a6)) ∧
      (∀ b ∈ [a1, a2, a3, a4, a5, a6, a7], H1 b = none) := by
  have k1 : Kp [] H1 h1 := by rw [e1]; exact Kp.new n1
  have k2 : Kp [] h1 h2 := by rw [e2]; exact Kp.new n2
  have k3 : Kp [] h2 h3 := by
    rw [e3]
    exact fun b o e _ => by rw [upd_ne (ne_of_none e n3), upd_ne (ne_of_none e n3)]; exact e
  have k4 : Kp [] h3 h4 := by rw [e4]; exact Kp.new n4
  have k5 : Kp [] h4 h5 := by rw [e5]; exact Kp.new n5
  have k6 : Kp [] h5 h6 := by rw [e6]; exact Kp.new n6
  have k7 : Kp [] h6 h7 := by rw [e7]; exact Kp.new n7
  have g1 : h7 a1 = some (.lst [.int 1, .str "b"]) := ((((((k2.trans k3).trans k4).trans k5).trans k6).trans k7)) _ _ (by rw [e1, upd_same]) (by simp)
  have g2 : h7 a2 = some (.tup [.int 2, .non]) := (((((k3.trans k4).trans k5).trans k6).trans k7)) _ _ (by rw [e2, upd_same]) (by simp)
  have g3 : h7 a3 = some (.dK [(Sum.inr "a", .int 1)]) := ((((k4.trans k5).trans k6).trans k7)) _ _ (by rw [e3, upd_same] <;> rfl) (by simp)
  have g4' : h4 a4 = some (.lst [.str "x"]) := by rw [e4, upd_same]
  have g4 : h7 a4 = some (.lst [.str "x"]) := (((k5.trans k6).trans k7)) _ _ g4' (by simp)
  have g5 : h7 a5 = some (.lst [.ref a4]) := ((k6.trans k7)) _ _ (by rw [e5, upd_same]) (by simp)
  have g6 : h7 a6 = some (.tup [.str "s", .int 3]) := k7 _ _ (by rw [e6, upd_same]) (by simp)
  have g7 : h7 a7 = some (.lst (someV a1 a2 a3 a5 a6)) := by rw [e7, upd_same]
  have n45 : a5 ≠ a4 := fun z => by rw [z, g4'] at n5; cases n5
  refine ⟨(((((k1.trans k2).trans k3).trans k4).trans k5).trans k6).trans k7, ?_, ?_, g7, ?_⟩
  · intro b hb
    simp only [List.mem_cons, List.not_mem_nil, or_false] at hb
    rcases hb with rfl | rfl | rfl | rfl | rfl | rfl
    · exact ⟨_, g1, fun _ z => by cases z⟩
    · exact ⟨_, g2, fun _ z => by cases z⟩
    · exact ⟨_, g3, fun _ z => by cases z⟩
    · exact ⟨_, g4, fun _ z => by cases z⟩
    · exact ⟨_, g5, fun _ z => by cases z⟩
    · exact ⟨_, g6, fun _ z => by cases z⟩
  · intro v hv
    simp only [someV, List.mem_cons, List.not_mem_nil, or_false] at hv
    rcases hv with rfl | rfl | rfl | rfl | rfl | rfl | rfl | rfl | rfl | rfl | rfl | rfl | rfl | rfl | rfl
    · exact txLeaf (t := "None") rfl (by decide)
    · exact txLeaf (t := (toString (5 : Int) : String)) ⟨by decide, rfl⟩ (by decide +kernel)
    · exact txLeaf (t := (toString (-1 : Int) : String)) ⟨by decide, rfl⟩ (by decide +kernel)
    · exact txLeaf (t := "True") rfl (by decide)
    · exact txLeaf (t := reprText "a") ⟨by decide +kernel, rfl⟩ (by decide +kernel)
    · exact txLeaf (t := reprText "") ⟨by decide +kernel, rfl⟩ (by decide +kernel)
    · exact ⟨listText [(toString (1 : Int) : String), reprText "b"], .inr (.inl ⟨a1, _, _, [], rfl, by simp, by simp, by simp, g1, .cons (.inl ⟨by decide, rfl⟩) (.cons (.inl ⟨by decide +kernel, rfl⟩) .nil), rfl⟩), by decide +kernel⟩
    · exact ⟨tupleText [(toString (2 : Int) : String), "None"], .inr (.inr (.inl ⟨a2, _, _, [], rfl, by simp, by simp, g2, .cons (.inl ⟨by decide, rfl⟩) (.cons (.inl rfl) .nil), rfl⟩)), by decide +kernel⟩
    · exact ⟨dictText [reprText "a" ++ ": " ++ (toString (1 : Int) : String)], .inr (.inr (.inr ⟨a3, "a", .int 1, (toString (1 : Int) : String), [], rfl, by simp, by simp, g3, by decide +kernel, .inl ⟨by decide, rfl⟩, rfl⟩)), by decide +kernel⟩
    · exact ⟨listText [listText [reprText "x"]], .inr (.inl ⟨a5, _, _, [a4], rfl, by simp, by simpa using n45, by simp, g5, .cons (.inr (.inl ⟨a4, _, _, [], rfl, by simp, by simp, by simp, g4, .cons (.inl ⟨by decide +kernel, rfl⟩) .nil, rfl⟩)) .nil, rfl⟩), by decide +kernel⟩
    · exact txLeaf (t := (toString ((10 : Int) ^ (30 : Int).toNat) : String)) ⟨by decide +kernel, rfl⟩ (by decide +kernel)
    · exact ⟨tupleText [reprText "s", (toString (3 : Int) : String)], .inr (.inr (.inl ⟨a6, _, _, [], rfl, by simp, by simp, g6, .cons (.inl ⟨by decide +kernel, rfl⟩) (.cons (.inl ⟨by decide, rfl⟩) .nil), rfl⟩)), by decide +kernel⟩
    · exact txLeaf (t := "False") rfl (by decide)
    · exact txLeaf (t := (toString (0 : Int) : String)) ⟨by decide, rfl⟩ (by decide +kernel)
    · exact txLeaf (t := (toString (1 : Int) : String)) ⟨by decide, rfl⟩ (by decide +kernel)
  · have back : ∀ {h h' : Hp} {b : Addr}, Kp [] h h' → h' b = none → h b = none := fun {h h' b} k n => by
      cases q : h b with
      | none => rfl
      | some o =>
        have z := k _ _ q (by simp)
        rw [n] at z; cases z
    intro b hb
    simp only [List.mem_cons, List.not_mem_nil, or_false] at hb
    rcases hb with rfl | rfl | rfl | rfl | rfl | rfl | rfl
    · exact n1
    · exact back k1 n2
    · exact back k1 (back k2 n3)
    · exact back k1 (back k2 (back k3 n4))
    · exact back k1 (back k2 (back k3 (back k4 n5)))
    · exact back k1 (back k2 (back k3 (back k4 (back k5 n6))))
    · exact back k1 (back k2 (back k3 (back k4 (back k5 (back k6 n7)))))
end K0
set_option maxHeartbeats 0
namespace K0
open PySem PySem.Spec PyProof.Rows L2 LamX
theorem pairApp {α β : Type} {F : α → β → Prop} : ∀ {l1 m1 : List α} {l2 m2 : List β}, Paired F l1 l2 → Paired F m1 m2 → Paired F (l1 ++ m1) (l2 ++ m2)
  | _, _, _, _, .nil, h => h
  | _, _, _, _, .cons a b, h => .cons a (pairApp b h)
section
variable {P : Program} {w : World} {K : PySem.W.Frag} {mg : Str → Option Value} {base : Heap} {cad : Str → Addr} {T : List (Addr × Str)}
theorem Mades.kn {H H' : Hp} {fr fr' : Addr → Prop} {x y : V} {rs : List Row} {ts : List V} (m : Mades P w K mg base cad x y H fr rs ts) (k : KpN [] H H') (f : ∀ d, fr d → fr' d) : Mades P w K mg base cad x y H' fr' rs ts :=
  L2.Paired.mapP m fun r t q => q.go (fun b o e t n => k b o e (by simp) t) fun d fd xs e => ⟨k d _ e (by simp) (fun _ z => by cases z), f d fd⟩
theorem made_all {σ : L2.St} {H : Hp} {D : Ends} {i1 i2 i3 : Nat} {x y z : V} (s1 : σ[i1]? = some (some x)) (s2 : σ[i2]? = some (some y)) (s3 : σ[i3]? = some (some z)) (hT : Tabs T H)
    (h : ∀ H' md ts, KpN [] H H' → Tabs T H' → H' md = some (.lst ts) → (∀ xs, H md ≠ some (.lst xs)) → Mades P w K mg base cad x y H' (fun d => ∀ xs, H d ≠ some (.lst xs)) rows ts → D.nx (σ.set 7 (some (.ref md))) H') :
    tAsg (tOp rCat (tOp rCat (tCall (spMade P w K mg base T cad rowsA) [] E0 (tCons (tVar i1) (tCons (tVar i2) (tCons (tVar i3) tNil)))) (tCall (spMade P w K mg base T cad rowsB) [] E0 (tCons (tVar i1) (tCons (tVar i2) (tCons (tVar i3) tNil)))))
      (tCall (spMade P w K mg base T cad rowsC) [] E0 (tCons (tVar i1) (tCons (tVar i2) (tCons (tVar i3) tNil))))) (gName 7) D σ H := by
  refine ⟨x, s1, y, s2, z, s3, x, y, z, rfl, hT, fun H1 p1 t1 k1 T1 n1 g1 m1 => ?_⟩
  refine ⟨x, s1, y, s2, z, s3, x, y, z, rfl, T1, fun H2 p2 t2 k2 T2 n2 g2 m2 => ?_⟩
  have la : t1.length = 18 := m1.length.symm
  have lb : t2.length = 18 := m2.length.symm
  have old : ∀ {h h' : Hp} {d : Addr}, KpN [] h h' → (∀ xs, h' d ≠ some (.lst xs)) → ∀ xs, h d ≠ some (.lst xs) := fun k n xs e => n xs (k _ _ e (by simp) (fun _ z => by cases z))
  refine ⟨p1, p2, t1, t2, rfl, rfl, k2 _ _ g1 (by simp) (fun _ z => by cases z), g2, by rw [la, lb]; decide, fun p3 n3 => ?_⟩
  have k3 : Kp [] H2 (upd H2 p3 (.lst (t1 ++ t2))) := Kp.new n3
  refine ⟨x, s1, y, s2, z, s3, x, y, z, rfl, k3.tabs (fun _ z => by cases z) T2, fun H4 p4 t4 k4 T4 n4 g4 m4 => ?_⟩
  have lc : t4.length = 16 := m4.length.symm
  refine ⟨p3, p4, t1 ++ t2, t4, rfl, rfl, k4 _ _ upd_same (by simp) (fun _ z => by cases z), g4, by rw [List.length_append, la, lb, lc]; decide, fun p5 n5 => ?_⟩
  have k5 : Kp [] H4 (upd H4 p5 (.lst (t1 ++ t2 ++ t4))) := Kp.new n5
  have q2 : KpN [] H1 (upd H4 p5 (.lst (t1 ++ t2 ++ t4))) := ((k2.trans k3.n).trans k4).trans k5.n
  have q3 : KpN [] H2 (upd H4 p5 (.lst (t1 ++ t2 ++ t4))) := (k3.n.trans k4).trans k5.n
  have n5' : ∀ xs, H4 p5 ≠ some (.lst xs) := fun xs e => by rw [n5] at e; cases e
  refine h _ p5 (t1 ++ t2 ++ t4) (k1.trans q2) (k5.tabs (fun _ z => by cases z) T4) upd_same (old (((k1.trans k2).trans k3.n).trans k4) n5') (pairApp (pairApp (Mades.kn m1 q2 ?_) (Mades.kn m2 q3 ?_)) (Mades.kn m4 k5.n ?_))
  · exact fun d fd => fd.2
  · exact fun d fd => old k1 fd.2
  · exact fun d fd => old ((k1.trans k2).trans k3.n) fd.2
theorem Mades.fr {H5 H6 : Hp} {x y : V} {rs : List Row} {ts : List V} {as : List Addr} (m : Mades P w K mg base cad x y H6 (fun d => ∀ xs, H5 d ≠ some (.lst xs)) rs ts) (so : Solid H5 as) (k : KpN [] H5 H6) :
    Mades P w K mg base cad x y H6 (fun d => d ∉ as) rs ts :=
  L2.Paired.mapP m fun r t q => q.go (fun b o e _ _ => e) fun d fd xs e => ⟨e, fun z => by
    obtain ⟨o, e2, t2⟩ := so d z
    have z2 := k d o e2 (by simp) t2
    rw [e] at z2
    cases z2
    exact fd xs e2⟩
theorem Spring.kn {H H' : Hp} {st l : Addr} {cs : List Int} {r c x : Int} (S : Spring H st l cs r c x) (k : KpN [] H H') : Spring H' st l cs r c x :=
  ⟨S.ne, k _ _ S.s (by simp) (fun _ z => by cases z), k _ _ S.l (by simp) (fun _ z => by cases z), S.r0, S.c0, S.x0, S.x1⟩
theorem cut3 (v1 v2 v3 : V) (r : List V) : cutV (v1 :: v2 :: v3 :: r) none (some 3) = [v1, v2, v3] := by
  have h : HT.sIx (v1 :: v2 :: v3 :: r).length (v1 :: v2 :: v3 :: r).length (some 3) = 3 := by
    simp only [HT.sIx, List.length_cons]
    simp
    try omega
  have h0 : HT.sIx (v1 :: v2 :: v3 :: r).length 0 none = 0 := rfl
  unfold cutV
  rw [h, h0] <;> rfl
end
end K0
set_option maxHeartbeats 0
namespace K0
open PySem PySem.Spec PyProof.Rows L2 LamX
abbrev nLaw : List Str := ["_law_script", "_law_stream", "_law_some", "_law_turn", "_law_x", "_law_y", "_law_z", "_law_made", "_law_at", "_law_mine", "_law_twin", "_law_field", "_law_due", "_law_held", "_law_base"]
theorem scLaw : FnScope nLaw ["_law_script"] (defScope (top 67)) := ⟨rfl, rfl, rfl, by decide +kernel, rfl, by decide +kernel, by decide +kernel⟩
/-- all that the law's def calls -/
structure Calls (P : Program) (w : World) (K : PySem.W.Frag) (mg : Str → Option Value) (base : Heap) (cad : Str → Addr) (T : List (Addr × Str)) (TE fS fM fA fB fC fO fT fK : Addr) (dS dM dA dB dC dO dT dK : FuncData) : Prop where
  oS : FnOk P w K mg base CX0 1 fS dS ["_law_script"] (spStart K)
  oM : FnOk P w K mg base CX0 2 fM dM ["_law_stream", "_law_some"] (spMixed K)
  oA : FnOk P w K mg base CX0 3 fA dA ["_law_x", "_law_y", "_law_z"] (spMade P w K mg base T cad rowsA)
  oB : FnOk P w K mg base CX0 3 fB dB ["_law_x", "_law_y", "_law_z"] (spMade P w K mg base T cad rowsB)
  oC : FnOk P w K mg base CX0 3 fC dC ["_law_x", "_law_y", "_law_z"] (spMade P w K mg base T cad rowsC)
  oO : FnOk P w K mg base CX0 3 fO dO ["_law_e", "_law_at"] (spOwn K cad TE)
  oT : OkG P w K mg base 1 fT dT ["_law_found", "_law_due"] spThese
  oK : FnOk P w K mg base CX0 2 fK dK ["_law_e"] (spKinds K cad rows)
  gS : mg "_law_start" = some (.ref fS)
  gM : mg "_law_mixed" = some (.ref fM)
  gA : mg "_law_made_a" = some (.ref fA)
  gB : mg "_law_made_b" = some (.ref fB)
  gC : mg "_law_made_c" = some (.ref fC)
  gO : mg "_law_is_own" = some (.ref fO)
  gT : mg "_law_are_these" = some (.ref fT)
  gK : mg "_law_kinds" = some (.ref fK)
  kS : PySem.W.keepIn K (.ref fS) = true
  kM : PySem.W.keepIn K (.ref fM) = true
  kA : PySem.W.keepIn K (.ref fA) = true
  kB : PySem.W.keepIn K (.ref fB) = true
  kC : PySem.W.keepIn K (.ref fC) = true
  kO : PySem.W.keepIn K (.ref fO) = true
  kT : PySem.W.keepIn K (.ref fT) = true
  kK : PySem.W.keepIn K (.ref fK) = true
  bS : L2.Binds K dS ["_law_script"] []
  bM : L2.Binds K dM ["_law_stream", "_law_some"] []
  bA : L2.Binds K dA ["_law_x", "_law_y", "_law_z"] []
  bB : L2.Binds K dB ["_law_x", "_law_y", "_law_z"] []
  bC : L2.Binds K dC ["_law_x", "_law_y", "_law_z"] []
  bO : L2.Binds K dO ["_law_e", "_law_at"] []
  bT : L2.Binds K dT ["_law_found", "_law_due"] []
  bK : L2.Binds K dK ["_law_e"] []
  Z : Cls0 K mg "TalkError" TE
  zV : PySem.W.kitOne K (.ref TE) (.type "ValueError") = some true
  zk : ∀ q ∈ rows, PySem.W.kitOne K (.ref TE) (.ref (cad q.nm)) = some false
  cl : ∀ r ∈ rows, ClsK K cad TE r
section
variable {P : Program} {w : World} {K : PySem.W.Frag} {mg : Str → Option Value} {base : Heap} {cad : Str → Addr} {T : List (Addr × Str)} {TE fS fM fA fB fC fO fT fK f : Addr} {dS dM dA dB dC dO dT dK fd : FuncData}
def spLaw (K : PySem.W.Frag) (T : List (Addr × Str)) : Sp := fun vs H Q _ => ∃ (a : Addr) (ns : List Int), vs = [.ref a] ∧ SqL K H a (ns.map V.int) ∧ Tabs T H ∧ ∀ H', Q (.bl true) H'
theorem ok_law (F : FnP K "law" 67 f fd) (G : Glb mg) (L : Calls P w K mg base cad T TE fS fM fA fB fC fO fT fK dS dM dA dB dC dO dT dK) : OkG P w K mg base 4 f fd ["_law_script"] (spLaw K T) := by
  refine okG_of F scLaw (fun vs H Q E h => ?_) fun cdv A outer s H vs Q hr hG h => ?_
  · obtain ⟨a, ns, rfl, _⟩ := h
    rfl
  · obtain ⟨a, ns, rfl, hS, hT, k⟩ := h
    have nd := scLaw.nd
    have r1 := hr.mono (show 1 ≤ 3 by decide)
    have r2 := hr.mono (show 2 ≤ 3 by decide)
    refine ⟨_, PSs.nox (pss_cons (ps_set (i := 1) nd rfl (Or.inl rfl) (pe_call L.oS r1 rfl L.gS L.kS L.bS .nil pass0 (pa_cons (pv 0) pa_nil)))
      (pss_cons (ps_set (i := 2) nd rfl (Or.inl rfl) (pe_lst (pa_cons pe_non (pa_cons pe_int (pa_cons (pe_un un_neg pe_int) (pa_cons pe_bl (pa_cons pe_str (pa_cons pe_str
        (pa_cons (pe_lst (pa_cons pe_int (pa_cons pe_str pa_nil))) (pa_cons (pe_tup (pa_cons pe_int (pa_cons pe_non pa_nil))) (pa_cons (pe_disp (pps_cons pe_str pe_int pps_nil) (by rfl) (by rfl) (fun z => by cases z) (by decide))
        (pa_cons (pe_lst (pa_cons (pe_lst (pa_cons pe_str pa_nil)) pa_nil)) (pa_cons (pe_op op_pow pe_int pe_int) (pa_cons (pe_tup (pa_cons pe_str (pa_cons pe_int pa_nil))) (pa_cons pe_bl (pa_cons pe_int (pa_cons pe_int pa_nil)))))))))))))))))
      (pss_cons (ps_for PassesOwn.never rfl (pi_range1 rfl G.range (pa_cons pe_int pa_nil)) (pg_name (i := 3) nd rfl (Or.inl rfl))
        (pss_cons (ps_asg (pe_slice sl_list (pe_call L.oM r2 rfl L.gM L.kM L.bM .nil pass0 (pa_cons (pv 1) (pa_cons (pv 2) pa_nil))) po_none (po_some pe_int))
            (pg_lst rfl (pgs_cons (pg_name (i := 4) nd rfl (Or.inl rfl)) (pgs_cons (pg_name (i := 5) nd rfl (Or.inl rfl)) (pgs_cons (pg_name (i := 6) nd rfl (Or.inl rfl)) pgs_nil)))))
        (pss_cons (ps_set (i := 7) nd rfl (Or.inl rfl) (pe_op op_cat (pe_op op_cat (pe_call L.oA hr rfl L.gA L.kA L.bA .nil pass0 (pa_cons (pv 4) (pa_cons (pv 5) (pa_cons (pv 6) pa_nil))))
            (pe_call L.oB hr rfl L.gB L.kB L.bB .nil pass0 (pa_cons (pv 4) (pa_cons (pv 5) (pa_cons (pv 6) pa_nil))))) (pe_call L.oC hr rfl L.gC L.kC L.bC .nil pass0 (pa_cons (pv 4) (pa_cons (pv 5) (pa_cons (pv 6) pa_nil))))))
        (pss_one (ps_for PassesOwn.never rfl (pi_enum (by rfl) G.enum (pa_cons (pv 7) pa_nil))
          (pg_tup rfl (pgs_cons (pg_name (i := 8) nd rfl (Or.inl rfl)) (pgs_cons (pg_tup rfl (pgs_cons (pg_name (i := 9) nd rfl (Or.inl rfl)) (pgs_cons (pg_name (i := 10) nd rfl (Or.inl rfl)) (pgs_cons (pg_name (i := 11) nd rfl (Or.inl rfl))
            (pgs_cons (pg_name (i := 12) nd rfl (Or.inl rfl)) pgs_nil))))) pgs_nil)))
          (pss_cons (ps_if (PW.pt (pw_or (pt_not (pt_val (pe_call L.oO hr rfl L.gO L.kO L.bO .nil pass0 (pa_cons (pv 9) (pa_cons (pv 8) pa_nil)))))
              (pw_or1 (pt_not (pt_val (pe_call L.oO hr rfl L.gO L.kO L.bO .nil pass0 (pa_cons (pv 10) (pa_cons (pv 8) pa_nil)))))))) (pss_one (ps_ret pe_bl)) pss_nil)
          (pss_one (ps_if (PW.pt (pw_or (pt_not (pt_val (pe_callG L.oT r1 hG rfl L.gT L.kT L.bT (pa_cons (pe_callLam (i := 11) r1 rfl (Or.inl rfl) (pa_cons (pv 9) pa_nil)) (pa_cons (pv 12) pa_nil)))))
              (pw_or1 (pt_not (pt_val (pe_callG L.oT r1 hG rfl L.gT L.kT L.bT (pa_cons (pe_callLam (i := 11) r1 rfl (Or.inl rfl) (pa_cons (pv 10) pa_nil)) (pa_cons (pv 12) pa_nil)))))))) (pss_one (ps_ret pe_bl)) pss_nil))))))))
      (pss_cons (ps_set (i := 13) nd rfl (Or.inl rfl) (pe_lst (pa_cons pe_str pa_nil)))
      (pss_cons (ps_set (i := 7) nd rfl (Or.inl rfl) (pe_op op_cat (pe_op op_cat (pe_call L.oA hr rfl L.gA L.kA L.bA .nil pass0 (pa_cons (pv 13) (pa_cons (pv 13) (pa_cons (pv 13) pa_nil))))
            (pe_call L.oB hr rfl L.gB L.kB L.bB .nil pass0 (pa_cons (pv 13) (pa_cons (pv 13) (pa_cons (pv 13) pa_nil))))) (pe_call L.oC hr rfl L.gC L.kC L.bC .nil pass0 (pa_cons (pv 13) (pa_cons (pv 13) (pa_cons (pv 13) pa_nil))))))
      (pss_cons (ps_expr (pe_bm PySem.F.plainAttrs_list PySem.F.slot_list_append PySem.F.type_list_append mt_append (pv 13) (pa_cons pe_str pa_nil)))
      (pss_cons (ps_for PassesOwn.never rfl (pi_list (pv 7))
          (pg_tup rfl (pgs_cons (pg_name (i := 9) nd rfl (Or.inl rfl)) (pgs_cons (pg_name (i := 10) nd rfl (Or.inl rfl)) (pgs_cons (pg_name (i := 11) nd rfl (Or.inl rfl))
            (pgs_cons (pg_name (i := 12) nd rfl (Or.inl rfl)) pgs_nil)))))
          (pss_one (ps_if (PW.pt (pw_or (pt_not (pt_val (pe_callG L.oT r1 hG rfl L.gT L.kT L.bT (pa_cons (pe_callLam (i := 11) r1 rfl (Or.inl rfl) (pa_cons (pv 9) pa_nil)) (pa_cons (pv 12) pa_nil)))))
              (pw_or1 (pt_not (pt_val (pe_callG L.oT r1 hG rfl L.gT L.kT L.bT (pa_cons (pe_callLam (i := 11) r1 rfl (Or.inl rfl) (pa_cons (pv 10) pa_nil)) (pa_cons (pv 12) pa_nil)))))))) (pss_one (ps_ret pe_bl)) pss_nil)))
      (pss_cons (ps_set (i := 14) nd rfl (Or.inl rfl) (pe_oex0 PySem.F.excBase_ValueError L.Z.ex L.Z.gm L.Z.E.T.kC rfl))
      (pss_one (ps_ret (pe_and (pe_callB call_isO (by rfl) G.isin boot_isinstance (pa_cons (pv 14) (pa_cons (pe_bltn (v := .ty "ValueError") (u := .type "ValueError") (by rfl) G.ve (by decide +kernel) rfl) pa_nil)))
        (pe_one (pe_cmpR op_notIn_seq pe_bl (pe_call L.oK r2 rfl L.gK L.kK L.bK .nil pass0 (pa_cons (pv 14) pa_nil)) (by rfl)))))))))))))), ?_⟩
    -- the spring
    refine ⟨.ref a, rfl, a, ns, rfl, hS, fun l st nl nst nsl => ?_⟩
    have kS : Kp [] H (upd (upd H l (.lst (ns.map V.int))) st (.lst [.ref l, .int 0, .int 0, .int 11])) := fun b o e _ => by
      rw [upd_ne (ne_of_none e nst), upd_ne (ne_of_none e nl)]; exact e
    have SP : Spring (upd (upd H l (.lst (ns.map V.int))) st (.lst [.ref l, .int 0, .int 0, .int 11])) st l ns 0 0 11 :=
      ⟨Ne.symm nsl, upd_same, by rw [upd_ne (Ne.symm nsl), upd_same], Int.le_refl _, Int.le_refl _, by decide, by decide⟩
    have T1 : Tabs T (upd (upd H l (.lst (ns.map V.int))) st (.lst [.ref l, .int 0, .int 0, .int 11])) := kS.tabs (fun _ z => by cases z) hT
    generalize (upd (upd H l (.lst (ns.map V.int))) st (.lst [.ref l, .int 0, .int 0, .int 11])) = H1 at kS SP T1 ⊢
    -- the things
    refine ⟨_, rfl, ⟨(show 2 ≤ sizeLine by decide), fun a1 n1 => ?_⟩⟩
    refine ⟨(show 2 ≤ sizeLine by decide), fun a2 n2 => ?_⟩
    refine fun a3 n3 => ⟨upd_same, [(Sum.inr "a", .int 1)], rfl, by decide, ?_⟩
    refine ⟨(show 1 ≤ sizeLine by decide), fun a4 n4 => ?_⟩
    refine ⟨(show 1 ≤ sizeLine by decide), fun a5 n5 => ?_⟩
    refine ⟨_, _, rfl, rfl, ⟨by decide, by decide, by decide⟩, ?_⟩
    refine ⟨(show 2 ≤ sizeLine by decide), fun a6 n6 => ?_⟩
    refine ⟨(show 15 ≤ sizeLine by decide), fun so nso => ?_⟩
    obtain ⟨kZ, SO, TX, hso, new⟩ := some_fin n1 rfl n2 rfl n3 rfl n4 rfl n5 rfl n6 rfl nso rfl
    have T2 := kZ.tabs (T := T) (fun _ z => by cases z) T1
    have S2 := SP.kn kZ.n
    have nas : ∀ b ∈ [a1, a2, a3, a4, a5, a6], b ∉ [st, l] := fun b hb z => by
      have q := new b (List.mem_append_left [so] hb)
      simp only [List.mem_cons, List.not_mem_nil, or_false] at z
      rcases z with rfl | rfl
      · rw [SP.s] at q; cases q
      · rw [SP.l] at q; cases q
    have nso2 : so ∉ [st, l] := fun z => by
      have q := new so (by simp)
      simp only [List.mem_cons, List.not_mem_nil, or_false] at z
      rcases z with rfl | rfl
      · rw [SP.s] at q; cases q
      · rw [SP.l] at q; cases q
    refine ⟨_, rfl, by decide, by decide, for_range (lo := 0) (n := 2) (fun j σ' H' => σ'.length = 15 ∧ σ'[1]? = some (some (.ref st)) ∧ σ'[2]? = some (some (.ref so)) ∧ (∃ cs r c x, Spring H' st l cs r c x ∧ c ≤ 15 * j) ∧
      H' so = some (.lst (someV a1 a2 a3 a5 a6)) ∧ Solid H' [a1, a2, a3, a4, a5, a6] ∧ (∀ v ∈ someV a1 a2 a3 a5 a6, Txt H' [a1, a2, a3, a4, a5, a6] v) ∧ Tabs T H') ⟨rfl, rfl, rfl, ⟨_, _, _, _, S2, by decide⟩, hso, SO, TX, T2⟩ ?_ ?_⟩
    · rintro j σ1 H3 hj ⟨ln, s1, s2, ⟨cs, r, c, x, Sj, cj⟩, hso3, SO3, TX3, T3⟩
      have s1' : (σ1.set 3 (some (.int (0 + (j : Int)))))[1]? = some (some (.ref st)) := by rw [List.getElem?_set_ne (by decide)]; exact s1
      have s2' : (σ1.set 3 (some (.int (0 + (j : Int)))))[2]? = some (some (.ref so)) := by rw [List.getElem?_set_ne (by decide)]; exact s2
      refine ⟨.ref st, s1', .ref so, s2', st, l, so, _, cs, r, c, x, rfl, Sj, SqL.of hso3, (show 15 ≤ 20 by decide), (show c + ((15 : Nat) : Int) < 1000 by omega), fun H4 p ys cs' r' x' perm S4 np hp k4 => ?_⟩
      refine ⟨3, rfl, p, ys, rfl, SqL.of hp, fun p2 np2 => ?_⟩
      have ly : ys.length = 15 := perm.length_eq
      obtain ⟨v1, v2, v3, rest, rfl⟩ : ∃ v1 v2 v3 rest, ys = v1 :: v2 :: v3 :: rest := match ys, ly with
        | v1 :: v2 :: v3 :: rest, _ => ⟨v1, v2, v3, rest, rfl⟩
      rw [cut3]
      have k5 : Kp [] H4 (upd H4 p2 (.lst [v1, v2, v3])) := Kp.new np2
      refine ⟨p2, [v1, v2, v3], rfl, SqL.of upd_same, rfl, _, _, rfl, _, _, rfl, _, _, rfl, rfl, ?_⟩
      have T4 : Tabs T H4 := k4.tabs (fun b hb => by
        simp only [List.mem_cons, List.not_mem_nil, or_false] at hb
        rcases hb with rfl | rfl
        · exact ⟨_, Sj.s⟩
        · exact ⟨_, Sj.l⟩) T3
      have T5 := k5.tabs (T := T) (fun _ z => by cases z) T4
      have SO5 := (SO3.go k4.n nas).go k5.n (by simp)
      have TX5 : ∀ v ∈ someV a1 a2 a3 a5 a6, Txt (upd H4 p2 (.lst [v1, v2, v3])) [a1, a2, a3, a4, a5, a6] v := fun v hv => ((TX3 v hv).go SO3 k4.n nas).go (SO3.go k4.n nas) k5.n (by simp)
      refine made_all (i1 := 4) (i2 := 5) (i3 := 6) (x := v1) (y := v2) (z := v3) (by simp [List.getElem?_set, ln]) (by simp [List.getElem?_set, ln]) (by simp [List.getElem?_set, ln]) T5 (fun H6 md ts k6 T6 hmd nmd m6 => ?_)
      have SO6 := SO5.go k6 (by simp)
      have TX6 : ∀ v ∈ someV a1 a2 a3 a5 a6, Txt H6 [a1, a2, a3, a4, a5, a6] v := fun v hv => (TX5 v hv).go SO5 k6 (by simp)
      refine loop1_ok (by simp [ln]) (by simp [List.getElem?_set, ln]) hmd (Mades.fr m6 SO5 k6) (fun d h => h) SO6 (TX6 _ (perm.mem_iff.mp (by simp))) (TX6 _ (perm.mem_iff.mp (by simp))) L.cl (fun σ' H7 S7 k7 => ?_)
      refine ⟨S7.1, (S7.2 1 (by decide)).trans (by rw [List.getElem?_set_ne (by decide), List.getElem?_set_ne (by decide), List.getElem?_set_ne (by decide), List.getElem?_set_ne (by decide), List.getElem?_set_ne (by decide)]; exact s1), (S7.2 2 (by decide)).trans (by rw [List.getElem?_set_ne (by decide), List.getElem?_set_ne (by decide), List.getElem?_set_ne (by decide), List.getElem?_set_ne (by decide), List.getElem?_set_ne (by decide)]; exact s2), ⟨cs', r', c + 15, x', ((S4.kn k5.n).kn k6).kn k7.n, by omega⟩, ?_, SO6.go k7.n (by simp), fun v hv => (TX6 v hv).go SO6 k7.n (by simp), k7.tabs (fun _ z => by cases z) T6⟩
      exact k7 _ _ (k6 _ _ (k5 _ _ (k4 _ _ hso3 nso2) (by simp)) (by simp) (fun _ z => by cases z)) (by simp)
    · rintro σ1 H3 ⟨ln, s1, s2, _, _, _, _, T3⟩
      -- one more thing, that is changed behind
      refine ⟨(show 1 ≤ sizeLine by decide), fun hd nhd => ?_⟩
      have k4 : Kp [] H3 (upd H3 hd (.lst [.str "v"])) := Kp.new nhd
      have T4 := k4.tabs (T := T) (fun _ z => by cases z) T3
      have g4 : upd H3 hd (.lst [.str "v"]) hd = some (.lst [.str "v"]) := upd_same
      generalize upd H3 hd (.lst [.str "v"]) = H4 at k4 T4 g4 ⊢
      refine made_all (i1 := 13) (i2 := 13) (i3 := 13) (x := .ref hd) (y := .ref hd) (z := .ref hd) (by simp [List.getElem?_set, ln]) (by simp [List.getElem?_set, ln]) (by simp [List.getElem?_set, ln]) T4 (fun H6 md ts k6 T6 hmd nmd m6 => ?_)
      have S4 : Solid H4 [hd] := fun b hb => by
        rw [List.mem_singleton.mp hb]
        exact ⟨_, g4, fun _ z => by cases z⟩
      have m7 := Mades.fr m6 S4 k6
      have g6 : H6 hd = some (.lst [.str "v"]) := k6 _ _ g4 (by simp) (fun _ z => by cases z)
      have nmd2 : md ≠ hd := fun z => nmd _ (by rw [z]; exact g4)
      refine ⟨.ref hd, by simp [List.getElem?_set, ln], .inl ⟨rfl, _, SqL.of g6⟩, hd, [.str "v"], .str "w", rfl, rfl, g6, (show 1 < sizeLine by decide), ?_⟩
      have k8 : Kp [hd] H6 (upd H6 hd (.lst ([.str "v"] ++ [.str "w"]))) := Kp.put (by simp)
      have g8 : upd H6 hd (.lst ([.str "v"] ++ [.str "w"])) hd = some (.lst [.str "v", .str "w"]) := upd_same
      generalize upd H6 hd (.lst ([.str "v"] ++ [.str "w"])) = H8 at k8 g8 ⊢
      have m8 : Mades P w K mg base cad (.ref hd) (.ref hd) H8 (fun d => d ∉ [hd]) rows ts := L2.Paired.mapP m7 fun r t q => q.go (fun b o e _ n => k8 b o e fun z => by
          rw [List.mem_singleton.mp z, g6] at e
          exact n _ (Option.some.inj e).symm) fun d fd xs e => ⟨k8 d _ e fd, fd⟩
      have S8 : Solid H8 [hd] := fun b hb => by
        rw [List.mem_singleton.mp hb]
        exact ⟨_, g8, fun _ z => by cases z⟩
      have TX8 : Txt H8 [hd] (.ref hd) := ⟨listText [reprText "v", reprText "w"], .inr (.inl ⟨hd, _, _, [], rfl, by simp, by simp, by simp, g8, .cons (.inl ⟨by decide +kernel, rfl⟩) (.cons (.inl ⟨by decide +kernel, rfl⟩) .nil), rfl⟩), by decide +kernel⟩
      refine loop2_ok (by simp [ln]) (by simp [List.getElem?_set, ln]) (k8 _ _ hmd (by simpa using nmd2)) m8 (fun d h => h) S8 TX8 TX8 L.cl (fun σ9 H9 S9 k9 => ?_)
      -- the base itself
      refine fun b nb => ?_
      have l9 : σ9.length = 15 := S9.1
      have s14 : (σ9.set 14 (some (.ref b)))[14]? = some (some (.ref b)) := by simp [List.getElem?_set, l9]
      refine ⟨.ref b, s14, b, TE, none, .ty "ValueError", .type "ValueError", true, rfl, L.Z.E, upd_same, (fun _ z => nomatch z), .ty _, L.zV, true, rfl, iteT ?_⟩
      refine ⟨.ref b, s14, b, TE, [], fun _ => false, rfl, L.Z.E, ⟨none, upd_same, (fun _ z => nomatch z), fun _ => rfl⟩, L.zk, fun H10 p k10 n10 h10 => ?_⟩
      refine ⟨p, _, rfl, .inl (SqL.of h10), rfl, by decide +kernel, ?_⟩
      have e : (if true = true then !inV (.bl true) (rows.map fun r => V.bl ((fun _ => false) r.nm)) else inV (.bl true) (rows.map fun r => V.bl ((fun _ => false) r.nm))) = true := by decide +kernel
      rw [e]
      exact k H10
end
end K0
set_option maxHeartbeats 0
namespace K0
open PySem PySem.Spec PyProof.Rows L2 LamX
section
variable {K : PySem.W.Frag} {T C D : Addr}
abbrev mroE (T C : Addr) : List Value := (if C = T then [.ref C] else [.ref C, .ref T]) ++ HandSPX.veTail
/-- the class object, as the head tells it -/
theorem oex_obj (h : oexB K T C = true) : ∃ nm q N bs sn sub ab col dd k0 k1 k2 k3 k5, K.lookup C = some (excClassObj nm q C N bs ((mroE T C).tail) true sn sub ab col dd k0 k1 k2 k3 k5 "ValueError.__new__") := by
  unfold oexB at h
  split at h
  · rename_i ty dd cd sl ho
    obtain ⟨h1, h2⟩ := He.ba h
    obtain ⟨h3, h4⟩ := He.ba h2
    obtain ⟨h5, h6⟩ := He.ba h4
    obtain ⟨h7, h8⟩ := He.ba h5
    have e1 := of_decide_eq_true h1
    have e3 := of_decide_eq_true h3
    split at h6
    · rename_i k0 k1 k2 k3 n k5 hs
      have e6 := of_decide_eq_true h6
      subst e1 e6
      obtain ⟨nm, bs, mro, ns, qn, hd, sn, sub, ab, col, del⟩ := cd
      dsimp only at e3 h7 h8
      have hdel : del = false := by simpa using h8
      have em : mro = .ref C :: (mroE T C).tail := by
        rw [e3]
        unfold mroE
        split <;> rfl
      subst h7 hdel em
      have hsl : sl = #[k0, k1, k2, k3, some (.builtin "ValueError.__new__"), k5] := by
        obtain ⟨l⟩ := sl
        simp only at hs
        rw [hs]
      subst hsl
      exact ⟨nm, qn, ns, bs, sn, sub, ab, col, dd, k0, k1, k2, k3, k5, ho⟩
    · cases h6
  · cases h
theorem mro_cons : Value.ref C :: (mroE T C).tail = mroE T C := by
  unfold mroE
  split <;> rfl
theorem mro_in (h : oexB K T C = true) (b : Value) : PySem.W.mroIn K C b = some ((mroE T C).contains b) := by
  obtain ⟨nm, q, N, bs, sn, sub, ab, col, dd, k0, k1, k2, k3, k5, e⟩ := oex_obj h
  unfold PySem.W.mroIn PySem.W.clsIn
  rw [e]
  show (if (Value.ref C :: (mroE T C).tail).isEmpty = true then none else some ((Value.ref C :: (mroE T C).tail).contains b)) = _
  rw [if_neg (by simp), mro_cons]
theorem errK_of (h : errB K T C = true) : ErrK K C := by
  obtain ⟨h1, h2⟩ := He.ba h
  obtain ⟨h3, h4⟩ := He.ba h2
  obtain ⟨h5, h6⟩ := He.ba h4
  obtain ⟨h7, h8⟩ := He.ba h6
  obtain ⟨h9, h10⟩ := He.ba h8
  obtain ⟨nm, q, N, bs, sn, sub, ab, col, dd, k0, k1, k2, k3, k5, e⟩ := oex_obj h1
  have hm : HandSPX.refsVE (mroE T C).tail = true := by
    unfold mroE
    split <;> rfl
  refine ⟨⟨⟨nm, q, N, bs, _, sn, sub, ab, col, dd, k0, k1, k2, k3, k5, e, hm⟩, He.eqO_ok h5, ?_, ?_, h3⟩, He.eqO_ok h7, He.eqO_ok h9, ?_, He.eqO_ok h10, ?_⟩
  · show PySem.W.mroIn K C (.type "BaseException") = some true
    rw [mro_in h1]
    unfold mroE
    split <;> rfl
  · show (K.lookup C).map (·.cls) = _
    rw [e] <;> rfl
  · unfold PySem.W.hasDictIn PySem.W.clsIn
    rw [e] <;> rfl
  · rw [mro_in h1]
    unfold mroE
    split <;> rfl
theorem kit_own (hC : errB K T C = true) (hD : errB K T D = true) : PySem.W.kitOne K (.ref C) (.ref D) = some (decide (D = C ∨ D = T)) := by
  have e1 := (He.ba hC).1
  have eD := errK_of hD
  unfold PySem.W.kitOne
  by_cases q : C = D
  · subst q
    rw [if_pos (by simp)]
    simp
  · rw [if_neg (by simpa using q)]
    obtain ⟨nm, qn, N, bs, sn, sub, ab, col, dd, k0, k1, k2, k3, k5, e⟩ := oex_obj (He.ba hD).1
    have hs : (PySem.W.clsIn K D).isSome = true := by
      unfold PySem.W.clsIn
      rw [e] <;> rfl
    show (if ((PySem.W.clsIn K D).isSome && PySem.W.typeIn K (.ref D) == some (.type "type")) = true then PySem.W.mroIn K C (.ref D) else none) = _
    rw [if_pos (by rw [hs, eD.T.tyC]; simp), mro_in e1]
    unfold mroE
    split
    · rename_i z
      subst z
      simp [Ne.symm q]
    · simp [Ne.symm q]
theorem kit_ty (hC : errB K T C = true) (n : String) (hm : PySem.W.kitMeta n = true) : PySem.W.kitOne K (.ref C) (.type n) = some (HandSPX.veTail.contains (.type n)) := by
  unfold PySem.W.kitOne
  rw [if_neg (by simp)]
  show (if PySem.W.kitMeta n = true then PySem.W.mroIn K C (.type n) else none) = _
  rw [if_pos hm, mro_in (He.ba hC).1]
  unfold mroE
  split <;> simp
theorem inj_of {α : Type} {f : α → Addr} : ∀ {l : List α}, apart (l.map f) = true → ∀ a ∈ l, ∀ b ∈ l, f a = f b → a = b
  | x :: l, h, a, ha, b, hb, e => by
    obtain ⟨h1, h2⟩ := He.ba (show (((l.map f).all fun b => !Nat.beq (f x) b) && apart (l.map f)) = true from h)
    have ne : ∀ y ∈ l, f x ≠ f y := fun y hy z => by
      have q := List.all_eq_true.mp h1 (f y) (List.mem_map.mpr ⟨y, hy, rfl⟩)
      rw [z] at q
      simp at q
    rcases List.mem_cons.mp ha with ea | ha2
    · rcases List.mem_cons.mp hb with eb | hb2
      · rw [ea, eb]
      · rw [ea] at e
        exact absurd e (ne b hb2)
    · rcases List.mem_cons.mp hb with eb | hb2
      · rw [eb] at e
        exact absurd e.symm (ne a ha2)
      · exact inj_of h2 a ha2 b hb2 e
/-- all the classes' facts -/
theorem cls_of (h : ex K = true) : ∀ r ∈ rows, ClsK K (He.ga K) (He.ga K "TalkError") r := fun r hr => by
  obtain ⟨h1, h2⟩ := He.ba h
  obtain ⟨h3, h4⟩ := He.ba h2
  obtain ⟨h5, h6⟩ := He.ba h4
  have row : ∀ q ∈ rows, errB K (He.ga K "TalkError") (He.ga K q.nm) = true := fun q hq => (He.ba (List.all_eq_true.mp h5 q hq)).1
  obtain ⟨h7, h8⟩ := He.ba (show (((rows.map fun r => He.ga K r.nm).all fun b => !Nat.beq (He.ga K "TalkError") b) && apart (rows.map fun r => He.ga K r.nm)) = true from h6)
  have nT : ∀ q ∈ rows, He.ga K q.nm ≠ He.ga K "TalkError" := fun q hq z => by
    have y := List.all_eq_true.mp h7 _ (List.mem_map.mpr ⟨q, hq, rfl⟩)
    rw [z] at y
    simp at y
  have b := List.all_eq_true.mp h5 r hr
  obtain ⟨b1, b2⟩ := He.ba b
  obtain ⟨b3, b4⟩ := He.ba b2
  refine ⟨errK_of b1, fun f hf => He.eqO_ok (List.all_eq_true.mp b3 f hf), ?_, ?_, ?_, fun q hq => ?_⟩
  · rw [kit_own b1 h1]; simp
  · rw [kit_ty b1 "ValueError" (by decide +kernel)] <;> rfl
  · rw [kit_ty b1 "LookupError" (by decide +kernel)] <;> rfl
  · rw [kit_own b1 (row q hq)]
    by_cases z : q.nm = r.nm
    · rw [z]; simp
    · have ne : He.ga K q.nm ≠ He.ga K r.nm := fun y => z (by rw [inj_of h8 q hq r hr y])
      simp [z, ne, nT q hq]
theorem base_of {mg : Str → Option Value} (h : ex K = true) (g : mg "TalkError" = some (.ref (He.ga K "TalkError"))) : Cls0 K mg "TalkError" (He.ga K "TalkError") ∧
    PySem.W.kitOne K (.ref (He.ga K "TalkError")) (.type "ValueError") = some true ∧ ∀ q ∈ rows, PySem.W.kitOne K (.ref (He.ga K "TalkError")) (.ref (He.ga K q.nm)) = some false := by
  obtain ⟨h1, h2⟩ := He.ba h
  obtain ⟨h3, h4⟩ := He.ba h2
  obtain ⟨h5, h6⟩ := He.ba h4
  obtain ⟨h7, h8⟩ := He.ba (show (((rows.map fun r => He.ga K r.nm).all fun b => !Nat.beq (He.ga K "TalkError") b) && apart (rows.map fun r => He.ga K r.nm)) = true from h6)
  refine ⟨⟨errK_of h1, g, h3⟩, ?_, fun q hq => ?_⟩
  · rw [kit_ty h1 "ValueError" (by decide +kernel)] <;> rfl
  · have nT : He.ga K q.nm ≠ He.ga K "TalkError" := fun z => by
      have y := List.all_eq_true.mp h7 _ (List.mem_map.mpr ⟨q, hq, rfl⟩)
      rw [z] at y
      simp at y
    rw [kit_own h1 (He.ba (List.all_eq_true.mp h5 q hq)).1]
    simp [nT]
/-- what is asked of a row's class, but for its own def -/
theorem row_of {r : Row} (h : ex K = true) (hr : r ∈ rows) : (∀ f ∈ r.ps, PySem.W.findIn K (.ref (He.ga K r.nm)) f = some none) ∧ (r.ps = [] → PySem.W.excIn K (He.ga K r.nm) He.veBase "ValueError.__new__" = true) ∧
    (r.ps ≠ [] → PySem.W.findIn K (.ref (He.ga K r.nm)) "__init__" = some (some (.ref (He.ma K (He.ga K r.nm) "__init__"))) ∧ PySem.W.typeIn K (.ref (He.ma K (He.ga K r.nm) "__init__")) = some (.type "function")) := by
  obtain ⟨h1, h2⟩ := He.ba h
  obtain ⟨h3, h4⟩ := He.ba h2
  obtain ⟨h5, h6⟩ := He.ba h4
  obtain ⟨b1, b2⟩ := He.ba (List.all_eq_true.mp h5 r hr)
  obtain ⟨b3, b4⟩ := He.ba b2
  refine ⟨fun f hf => He.eqO_ok (List.all_eq_true.mp b3 f hf), fun z => ?_, fun z => ?_⟩
  · rw [if_pos (by rw [z] <;> rfl)] at b4
    exact b4
  · rw [if_neg (by cases q : r.ps with
      | nil => exact absurd q z
      | cons _ _ => simp)] at b4
    obtain ⟨c1, c2⟩ := He.ba b4
    exact ⟨He.eqO_ok c1, of_decide_eq_true c2⟩
end
end K0
set_option maxHeartbeats 0
namespace K0
open PySem PySem.Spec PyProof.Rows L2 LamX
/-- what the head tells of a row -/
structure BaseOk (K : PySem.W.Frag) (mg : Str → Option Value) (cad : Str → Addr) (r : Row) : Prop where
  E : ErrK K (cad r.nm)
  gm : mg r.nm = some (.ref (cad r.nm))
  no : ∀ f ∈ r.ps, PySem.W.findIn K (.ref (cad r.nm)) f = some none
  e0 : r.ps = [] → PySem.W.excIn K (cad r.nm) He.veBase "ValueError.__new__" = true
  e1 : r.ps ≠ [] → ∃ fI fd, PySem.W.findIn K (.ref (cad r.nm)) "__init__" = some (some (.ref fI)) ∧ PySem.W.typeIn K (.ref fI) = some (.type "function") ∧
    FunD K "__init__" (r.nm ++ ".__init__") (defArgs (inner r.at_)) (defBody (inner r.at_)) (defScope (inner r.at_)) [] [] fI fd
section
variable {P : Program} {w : World} {K : PySem.W.Frag} {mg : Str → Option Value} {base : Heap} {cad : Str → Addr}
theorem ro_BadAnswers (h : BaseOk K mg cad ⟨"BadAnswers", 2, ["index"]⟩) : RowOk P w K mg base cad ⟨"BadAnswers", 2, ["index"]⟩ := by
  obtain ⟨fI, fd, iC, tI, F⟩ := h.e1 (by simp)
  exact ⟨fI, fd, ⟨h.E, h.gm, iC, tI, h.no⟩, ok_init1 F ⟨rfl, rfl, rfl, by decide +kernel, rfl, by decide +kernel, by decide +kernel⟩ (Or.inl rfl) (Or.inl rfl) (by decide) (by decide) rfl,
    kbn_of F (fun _ _ _ _ _ _ us ws hl h0 => match us, ws, hl, h0 with | [_, _], [], _, _ => rfl) fun a _ => a,
    kbn_of F (fun _ _ _ _ _ _ us ws hl h0 => match us, ws, hl, h0 with | [_], [_], _, _ => rfl) fun a b => a.append b⟩
theorem ro_BadBody (h : BaseOk K mg cad ⟨"BadBody", 3, ["thing"]⟩) : RowOk P w K mg base cad ⟨"BadBody", 3, ["thing"]⟩ := by
  obtain ⟨fI, fd, iC, tI, F⟩ := h.e1 (by simp)
  exact ⟨fI, fd, ⟨h.E, h.gm, iC, tI, h.no⟩, ok_init1 F ⟨rfl, rfl, rfl, by decide +kernel, rfl, by decide +kernel, by decide +kernel⟩ (Or.inl rfl) (Or.inl rfl) (by decide) (by decide) rfl,
    kbn_of F (fun _ _ _ _ _ _ us ws hl h0 => match us, ws, hl, h0 with | [_, _], [], _, _ => rfl) fun a _ => a,
    kbn_of F (fun _ _ _ _ _ _ us ws hl h0 => match us, ws, hl, h0 with | [_], [_], _, _ => rfl) fun a b => a.append b⟩
theorem ro_BadBook (h : BaseOk K mg cad ⟨"BadBook", 4, ["thing"]⟩) : RowOk P w K mg base cad ⟨"BadBook", 4, ["thing"]⟩ := by
  obtain ⟨fI, fd, iC, tI, F⟩ := h.e1 (by simp)
  exact ⟨fI, fd, ⟨h.E, h.gm, iC, tI, h.no⟩, ok_init1 F ⟨rfl, rfl, rfl, by decide +kernel, rfl, by decide +kernel, by decide +kernel⟩ (Or.inl rfl) (Or.inl rfl) (by decide) (by decide) rfl,
    kbn_of F (fun _ _ _ _ _ _ us ws hl h0 => match us, ws, hl, h0 with | [_, _], [], _, _ => rfl) fun a _ => a,
    kbn_of F (fun _ _ _ _ _ _ us ws hl h0 => match us, ws, hl, h0 with | [_], [_], _, _ => rfl) fun a b => a.append b⟩
theorem ro_BadChoices (h : BaseOk K mg cad ⟨"BadChoices", 5, ["index"]⟩) : RowOk P w K mg base cad ⟨"BadChoices", 5, ["index"]⟩ := by
  obtain ⟨fI, fd, iC, tI, F⟩ := h.e1 (by simp)
  exact ⟨fI, fd, ⟨h.E, h.gm, iC, tI, h.no⟩, ok_init1 F ⟨rfl, rfl, rfl, by decide +kernel, rfl, by decide +kernel, by decide +kernel⟩ (Or.inl rfl) (Or.inl rfl) (by decide) (by decide) rfl,
    kbn_of F (fun _ _ _ _ _ _ us ws hl h0 => match us, ws, hl, h0 with | [_, _], [], _, _ => rfl) fun a _ => a,
    kbn_of F (fun _ _ _ _ _ _ us ws hl h0 => match us, ws, hl, h0 with | [_], [_], _, _ => rfl) fun a b => a.append b⟩
theorem ro_BadChosen (h : BaseOk K mg cad ⟨"BadChosen", 6, ["index"]⟩) : RowOk P w K mg base cad ⟨"BadChosen", 6, ["index"]⟩ := by
  obtain ⟨fI, fd, iC, tI, F⟩ := h.e1 (by simp)
  exact ⟨fI, fd, ⟨h.E, h.gm, iC, tI, h.no⟩, ok_init1 F ⟨rfl, rfl, rfl, by decide +kernel, rfl, by decide +kernel, by decide +kernel⟩ (Or.inl rfl) (Or.inl rfl) (by decide) (by decide) rfl,
    kbn_of F (fun _ _ _ _ _ _ us ws hl h0 => match us, ws, hl, h0 with | [_, _], [], _, _ => rfl) fun a _ => a,
    kbn_of F (fun _ _ _ _ _ _ us ws hl h0 => match us, ws, hl, h0 with | [_], [_], _, _ => rfl) fun a b => a.append b⟩
theorem ro_BadDeed (h : BaseOk K mg cad ⟨"BadDeed", 7, ["thing"]⟩) : RowOk P w K mg base cad ⟨"BadDeed", 7, ["thing"]⟩ := by
  obtain ⟨fI, fd, iC, tI, F⟩ := h.e1 (by simp)
  exact ⟨fI, fd, ⟨h.E, h.gm, iC, tI, h.no⟩, ok_init1 F ⟨rfl, rfl, rfl, by decide +kernel, rfl, by decide +kernel, by decide +kernel⟩ (Or.inl rfl) (Or.inl rfl) (by decide) (by decide) rfl,
    kbn_of F (fun _ _ _ _ _ _ us ws hl h0 => match us, ws, hl, h0 with | [_, _], [], _, _ => rfl) fun a _ => a,
    kbn_of F (fun _ _ _ _ _ _ us ws hl h0 => match us, ws, hl, h0 with | [_], [_], _, _ => rfl) fun a b => a.append b⟩
theorem ro_BadForm (h : BaseOk K mg cad ⟨"BadForm", 8, ["thing"]⟩) : RowOk P w K mg base cad ⟨"BadForm", 8, ["thing"]⟩ := by
  obtain ⟨fI, fd, iC, tI, F⟩ := h.e1 (by simp)
  exact ⟨fI, fd, ⟨h.E, h.gm, iC, tI, h.no⟩, ok_init1 F ⟨rfl, rfl, rfl, by decide +kernel, rfl, by decide +kernel, by decide +kernel⟩ (Or.inl rfl) (Or.inl rfl) (by decide) (by decide) rfl,
    kbn_of F (fun _ _ _ _ _ _ us ws hl h0 => match us, ws, hl, h0 with | [_, _], [], _, _ => rfl) fun a _ => a,
    kbn_of F (fun _ _ _ _ _ _ us ws hl h0 => match us, ws, hl, h0 with | [_], [_], _, _ => rfl) fun a b => a.append b⟩
theorem ro_BadLast (h : BaseOk K mg cad ⟨"BadLast", 9, ["index"]⟩) : RowOk P w K mg base cad ⟨"BadLast", 9, ["index"]⟩ := by
  obtain ⟨fI, fd, iC, tI, F⟩ := h.e1 (by simp)
  exact ⟨fI, fd, ⟨h.E, h.gm, iC, tI, h.no⟩, ok_init1 F ⟨rfl, rfl, rfl, by decide +kernel, rfl, by decide +kernel, by decide +kernel⟩ (Or.inl rfl) (Or.inl rfl) (by decide) (by decide) rfl,
    kbn_of F (fun _ _ _ _ _ _ us ws hl h0 => match us, ws, hl, h0 with | [_, _], [], _, _ => rfl) fun a _ => a,
    kbn_of F (fun _ _ _ _ _ _ us ws hl h0 => match us, ws, hl, h0 with | [_], [_], _, _ => rfl) fun a b => a.append b⟩
theorem ro_BadLetter (h : BaseOk K mg cad ⟨"BadLetter", 10, ["thing"]⟩) : RowOk P w K mg base cad ⟨"BadLetter", 10, ["thing"]⟩ := by
  obtain ⟨fI, fd, iC, tI, F⟩ := h.e1 (by simp)
  exact ⟨fI, fd, ⟨h.E, h.gm, iC, tI, h.no⟩, ok_init1 F ⟨rfl, rfl, rfl, by decide +kernel, rfl, by decide +kernel, by decide +kernel⟩ (Or.inl rfl) (Or.inl rfl) (by decide) (by decide) rfl,
    kbn_of F (fun _ _ _ _ _ _ us ws hl h0 => match us, ws, hl, h0 with | [_, _], [], _, _ => rfl) fun a _ => a,
    kbn_of F (fun _ _ _ _ _ _ us ws hl h0 => match us, ws, hl, h0 with | [_], [_], _, _ => rfl) fun a b => a.append b⟩
theorem ro_BadLong (h : BaseOk K mg cad ⟨"BadLong", 11, ["thing"]⟩) : RowOk P w K mg base cad ⟨"BadLong", 11, ["thing"]⟩ := by
  obtain ⟨fI, fd, iC, tI, F⟩ := h.e1 (by simp)
  exact ⟨fI, fd, ⟨h.E, h.gm, iC, tI, h.no⟩, ok_init1 F ⟨rfl, rfl, rfl, by decide +kernel, rfl, by decide +kernel, by decide +kernel⟩ (Or.inl rfl) (Or.inl rfl) (by decide) (by decide) rfl,
    kbn_of F (fun _ _ _ _ _ _ us ws hl h0 => match us, ws, hl, h0 with | [_, _], [], _, _ => rfl) fun a _ => a,
    kbn_of F (fun _ _ _ _ _ _ us ws hl h0 => match us, ws, hl, h0 with | [_], [_], _, _ => rfl) fun a b => a.append b⟩
theorem ro_BadMany (h : BaseOk K mg cad ⟨"BadMany", 12, ["thing"]⟩) : RowOk P w K mg base cad ⟨"BadMany", 12, ["thing"]⟩ := by
  obtain ⟨fI, fd, iC, tI, F⟩ := h.e1 (by simp)
  exact ⟨fI, fd, ⟨h.E, h.gm, iC, tI, h.no⟩, ok_init1 F ⟨rfl, rfl, rfl, by decide +kernel, rfl, by decide +kernel, by decide +kernel⟩ (Or.inl rfl) (Or.inl rfl) (by decide) (by decide) rfl,
    kbn_of F (fun _ _ _ _ _ _ us ws hl h0 => match us, ws, hl, h0 with | [_, _], [], _, _ => rfl) fun a _ => a,
    kbn_of F (fun _ _ _ _ _ _ us ws hl h0 => match us, ws, hl, h0 with | [_], [_], _, _ => rfl) fun a b => a.append b⟩
theorem ro_BadMost (h : BaseOk K mg cad ⟨"BadMost", 13, ["thing"]⟩) : RowOk P w K mg base cad ⟨"BadMost", 13, ["thing"]⟩ := by
  obtain ⟨fI, fd, iC, tI, F⟩ := h.e1 (by simp)
  exact ⟨fI, fd, ⟨h.E, h.gm, iC, tI, h.no⟩, ok_init1 F ⟨rfl, rfl, rfl, by decide +kernel, rfl, by decide +kernel, by decide +kernel⟩ (Or.inl rfl) (Or.inl rfl) (by decide) (by decide) rfl,
    kbn_of F (fun _ _ _ _ _ _ us ws hl h0 => match us, ws, hl, h0 with | [_, _], [], _, _ => rfl) fun a _ => a,
    kbn_of F (fun _ _ _ _ _ _ us ws hl h0 => match us, ws, hl, h0 with | [_], [_], _, _ => rfl) fun a b => a.append b⟩
theorem ro_BadName (h : BaseOk K mg cad ⟨"BadName", 14, ["thing"]⟩) : RowOk P w K mg base cad ⟨"BadName", 14, ["thing"]⟩ := by
  obtain ⟨fI, fd, iC, tI, F⟩ := h.e1 (by simp)
  exact ⟨fI, fd, ⟨h.E, h.gm, iC, tI, h.no⟩, ok_init1 F ⟨rfl, rfl, rfl, by decide +kernel, rfl, by decide +kernel, by decide +kernel⟩ (Or.inl rfl) (Or.inl rfl) (by decide) (by decide) rfl,
    kbn_of F (fun _ _ _ _ _ _ us ws hl h0 => match us, ws, hl, h0 with | [_, _], [], _, _ => rfl) fun a _ => a,
    kbn_of F (fun _ _ _ _ _ _ us ws hl h0 => match us, ws, hl, h0 with | [_], [_], _, _ => rfl) fun a b => a.append b⟩
theorem ro_BadNames (h : BaseOk K mg cad ⟨"BadNames", 15, ["thing"]⟩) : RowOk P w K mg base cad ⟨"BadNames", 15, ["thing"]⟩ := by
  obtain ⟨fI, fd, iC, tI, F⟩ := h.e1 (by simp)
  exact ⟨fI, fd, ⟨h.E, h.gm, iC, tI, h.no⟩, ok_init1 F ⟨rfl, rfl, rfl, by decide +kernel, rfl, by decide +kernel, by decide +kernel⟩ (Or.inl rfl) (Or.inl rfl) (by decide) (by decide) rfl,
    kbn_of F (fun _ _ _ _ _ _ us ws hl h0 => match us, ws, hl, h0 with | [_, _], [], _, _ => rfl) fun a _ => a,
    kbn_of F (fun _ _ _ _ _ _ us ws hl h0 => match us, ws, hl, h0 with | [_], [_], _, _ => rfl) fun a b => a.append b⟩
theorem ro_BadNumber (h : BaseOk K mg cad ⟨"BadNumber", 16, ["thing"]⟩) : RowOk P w K mg base cad ⟨"BadNumber", 16, ["thing"]⟩ := by
  obtain ⟨fI, fd, iC, tI, F⟩ := h.e1 (by simp)
  exact ⟨fI, fd, ⟨h.E, h.gm, iC, tI, h.no⟩, ok_init1 F ⟨rfl, rfl, rfl, by decide +kernel, rfl, by decide +kernel, by decide +kernel⟩ (Or.inl rfl) (Or.inl rfl) (by decide) (by decide) rfl,
    kbn_of F (fun _ _ _ _ _ _ us ws hl h0 => match us, ws, hl, h0 with | [_, _], [], _, _ => rfl) fun a _ => a,
    kbn_of F (fun _ _ _ _ _ _ us ws hl h0 => match us, ws, hl, h0 with | [_], [_], _, _ => rfl) fun a b => a.append b⟩
theorem ro_BadOther (h : BaseOk K mg cad ⟨"BadOther", 17, ["thing"]⟩) : RowOk P w K mg base cad ⟨"BadOther", 17, ["thing"]⟩ := by
  obtain ⟨fI, fd, iC, tI, F⟩ := h.e1 (by simp)
  exact ⟨fI, fd, ⟨h.E, h.gm, iC, tI, h.no⟩, ok_init1 F ⟨rfl, rfl, rfl, by decide +kernel, rfl, by decide +kernel, by decide +kernel⟩ (Or.inl rfl) (Or.inl rfl) (by decide) (by decide) rfl,
    kbn_of F (fun _ _ _ _ _ _ us ws hl h0 => match us, ws, hl, h0 with | [_, _], [], _, _ => rfl) fun a _ => a,
    kbn_of F (fun _ _ _ _ _ _ us ws hl h0 => match us, ws, hl, h0 with | [_], [_], _, _ => rfl) fun a b => a.append b⟩
theorem ro_BadPlan (h : BaseOk K mg cad ⟨"BadPlan", 18, ["thing"]⟩) : RowOk P w K mg base cad ⟨"BadPlan", 18, ["thing"]⟩ := by
  obtain ⟨fI, fd, iC, tI, F⟩ := h.e1 (by simp)
  exact ⟨fI, fd, ⟨h.E, h.gm, iC, tI, h.no⟩, ok_init1 F ⟨rfl, rfl, rfl, by decide +kernel, rfl, by decide +kernel, by decide +kernel⟩ (Or.inl rfl) (Or.inl rfl) (by decide) (by decide) rfl,
    kbn_of F (fun _ _ _ _ _ _ us ws hl h0 => match us, ws, hl, h0 with | [_, _], [], _, _ => rfl) fun a _ => a,
    kbn_of F (fun _ _ _ _ _ _ us ws hl h0 => match us, ws, hl, h0 with | [_], [_], _, _ => rfl) fun a b => a.append b⟩
theorem ro_BadProcs (h : BaseOk K mg cad ⟨"BadProcs", 19, ["index"]⟩) : RowOk P w K mg base cad ⟨"BadProcs", 19, ["index"]⟩ := by
  obtain ⟨fI, fd, iC, tI, F⟩ := h.e1 (by simp)
  exact ⟨fI, fd, ⟨h.E, h.gm, iC, tI, h.no⟩, ok_init1 F ⟨rfl, rfl, rfl, by decide +kernel, rfl, by decide +kernel, by decide +kernel⟩ (Or.inl rfl) (Or.inl rfl) (by decide) (by decide) rfl,
    kbn_of F (fun _ _ _ _ _ _ us ws hl h0 => match us, ws, hl, h0 with | [_, _], [], _, _ => rfl) fun a _ => a,
    kbn_of F (fun _ _ _ _ _ _ us ws hl h0 => match us, ws, hl, h0 with | [_], [_], _, _ => rfl) fun a b => a.append b⟩
theorem ro_BadProgram (h : BaseOk K mg cad ⟨"BadProgram", 20, ["thing"]⟩) : RowOk P w K mg base cad ⟨"BadProgram", 20, ["thing"]⟩ := by
  obtain ⟨fI, fd, iC, tI, F⟩ := h.e1 (by simp)
  exact ⟨fI, fd, ⟨h.E, h.gm, iC, tI, h.no⟩, ok_init1 F ⟨rfl, rfl, rfl, by decide +kernel, rfl, by decide +kernel, by decide +kernel⟩ (Or.inl rfl) (Or.inl rfl) (by decide) (by decide) rfl,
    kbn_of F (fun _ _ _ _ _ _ us ws hl h0 => match us, ws, hl, h0 with | [_, _], [], _, _ => rfl) fun a _ => a,
    kbn_of F (fun _ _ _ _ _ _ us ws hl h0 => match us, ws, hl, h0 with | [_], [_], _, _ => rfl) fun a b => a.append b⟩
theorem ro_BadQuestion (h : BaseOk K mg cad ⟨"BadQuestion", 21, ["thing"]⟩) : RowOk P w K mg base cad ⟨"BadQuestion", 21, ["thing"]⟩ := by
  obtain ⟨fI, fd, iC, tI, F⟩ := h.e1 (by simp)
  exact ⟨fI, fd, ⟨h.E, h.gm, iC, tI, h.no⟩, ok_init1 F ⟨rfl, rfl, rfl, by decide +kernel, rfl, by decide +kernel, by decide +kernel⟩ (Or.inl rfl) (Or.inl rfl) (by decide) (by decide) rfl,
    kbn_of F (fun _ _ _ _ _ _ us ws hl h0 => match us, ws, hl, h0 with | [_, _], [], _, _ => rfl) fun a _ => a,
    kbn_of F (fun _ _ _ _ _ _ us ws hl h0 => match us, ws, hl, h0 with | [_], [_], _, _ => rfl) fun a b => a.append b⟩
theorem ro_BadRow (h : BaseOk K mg cad ⟨"BadRow", 22, ["index"]⟩) : RowOk P w K mg base cad ⟨"BadRow", 22, ["index"]⟩ := by
  obtain ⟨fI, fd, iC, tI, F⟩ := h.e1 (by simp)
  exact ⟨fI, fd, ⟨h.E, h.gm, iC, tI, h.no⟩, ok_init1 F ⟨rfl, rfl, rfl, by decide +kernel, rfl, by decide +kernel, by decide +kernel⟩ (Or.inl rfl) (Or.inl rfl) (by decide) (by decide) rfl,
    kbn_of F (fun _ _ _ _ _ _ us ws hl h0 => match us, ws, hl, h0 with | [_, _], [], _, _ => rfl) fun a _ => a,
    kbn_of F (fun _ _ _ _ _ _ us ws hl h0 => match us, ws, hl, h0 with | [_], [_], _, _ => rfl) fun a b => a.append b⟩
theorem ro_BadRows (h : BaseOk K mg cad ⟨"BadRows", 23, ["index"]⟩) : RowOk P w K mg base cad ⟨"BadRows", 23, ["index"]⟩ := by
  obtain ⟨fI, fd, iC, tI, F⟩ := h.e1 (by simp)
  exact ⟨fI, fd, ⟨h.E, h.gm, iC, tI, h.no⟩, ok_init1 F ⟨rfl, rfl, rfl, by decide +kernel, rfl, by decide +kernel, by decide +kernel⟩ (Or.inl rfl) (Or.inl rfl) (by decide) (by decide) rfl,
    kbn_of F (fun _ _ _ _ _ _ us ws hl h0 => match us, ws, hl, h0 with | [_, _], [], _, _ => rfl) fun a _ => a,
    kbn_of F (fun _ _ _ _ _ _ us ws hl h0 => match us, ws, hl, h0 with | [_], [_], _, _ => rfl) fun a b => a.append b⟩
theorem ro_BadRule (h : BaseOk K mg cad ⟨"BadRule", 24, ["thing"]⟩) : RowOk P w K mg base cad ⟨"BadRule", 24, ["thing"]⟩ := by
  obtain ⟨fI, fd, iC, tI, F⟩ := h.e1 (by simp)
  exact ⟨fI, fd, ⟨h.E, h.gm, iC, tI, h.no⟩, ok_init1 F ⟨rfl, rfl, rfl, by decide +kernel, rfl, by decide +kernel, by decide +kernel⟩ (Or.inl rfl) (Or.inl rfl) (by decide) (by decide) rfl,
    kbn_of F (fun _ _ _ _ _ _ us ws hl h0 => match us, ws, hl, h0 with | [_, _], [], _, _ => rfl) fun a _ => a,
    kbn_of F (fun _ _ _ _ _ _ us ws hl h0 => match us, ws, hl, h0 with | [_], [_], _, _ => rfl) fun a b => a.append b⟩
theorem ro_BadSecond (h : BaseOk K mg cad ⟨"BadSecond", 25, ["thing"]⟩) : RowOk P w K mg base cad ⟨"BadSecond", 25, ["thing"]⟩ := by
  obtain ⟨fI, fd, iC, tI, F⟩ := h.e1 (by simp)
  exact ⟨fI, fd, ⟨h.E, h.gm, iC, tI, h.no⟩, ok_init1 F ⟨rfl, rfl, rfl, by decide +kernel, rfl, by decide +kernel, by decide +kernel⟩ (Or.inl rfl) (Or.inl rfl) (by decide) (by decide) rfl,
    kbn_of F (fun _ _ _ _ _ _ us ws hl h0 => match us, ws, hl, h0 with | [_, _], [], _, _ => rfl) fun a _ => a,
    kbn_of F (fun _ _ _ _ _ _ us ws hl h0 => match us, ws, hl, h0 with | [_], [_], _, _ => rfl) fun a b => a.append b⟩
theorem ro_BadSession (h : BaseOk K mg cad ⟨"BadSession", 26, ["thing"]⟩) : RowOk P w K mg base cad ⟨"BadSession", 26, ["thing"]⟩ := by
  obtain ⟨fI, fd, iC, tI, F⟩ := h.e1 (by simp)
  exact ⟨fI, fd, ⟨h.E, h.gm, iC, tI, h.no⟩, ok_init1 F ⟨rfl, rfl, rfl, by decide +kernel, rfl, by decide +kernel, by decide +kernel⟩ (Or.inl rfl) (Or.inl rfl) (by decide) (by decide) rfl,
    kbn_of F (fun _ _ _ _ _ _ us ws hl h0 => match us, ws, hl, h0 with | [_, _], [], _, _ => rfl) fun a _ => a,
    kbn_of F (fun _ _ _ _ _ _ us ws hl h0 => match us, ws, hl, h0 with | [_], [_], _, _ => rfl) fun a b => a.append b⟩
theorem ro_BadString (h : BaseOk K mg cad ⟨"BadString", 27, ["thing"]⟩) : RowOk P w K mg base cad ⟨"BadString", 27, ["thing"]⟩ := by
  obtain ⟨fI, fd, iC, tI, F⟩ := h.e1 (by simp)
  exact ⟨fI, fd, ⟨h.E, h.gm, iC, tI, h.no⟩, ok_init1 F ⟨rfl, rfl, rfl, by decide +kernel, rfl, by decide +kernel, by decide +kernel⟩ (Or.inl rfl) (Or.inl rfl) (by decide) (by decide) rfl,
    kbn_of F (fun _ _ _ _ _ _ us ws hl h0 => match us, ws, hl, h0 with | [_, _], [], _, _ => rfl) fun a _ => a,
    kbn_of F (fun _ _ _ _ _ _ us ws hl h0 => match us, ws, hl, h0 with | [_], [_], _, _ => rfl) fun a b => a.append b⟩
theorem ro_BadTable (h : BaseOk K mg cad ⟨"BadTable", 28, ["thing"]⟩) : RowOk P w K mg base cad ⟨"BadTable", 28, ["thing"]⟩ := by
  obtain ⟨fI, fd, iC, tI, F⟩ := h.e1 (by simp)
  exact ⟨fI, fd, ⟨h.E, h.gm, iC, tI, h.no⟩, ok_init1 F ⟨rfl, rfl, rfl, by decide +kernel, rfl, by decide +kernel, by decide +kernel⟩ (Or.inl rfl) (Or.inl rfl) (by decide) (by decide) rfl,
    kbn_of F (fun _ _ _ _ _ _ us ws hl h0 => match us, ws, hl, h0 with | [_, _], [], _, _ => rfl) fun a _ => a,
    kbn_of F (fun _ _ _ _ _ _ us ws hl h0 => match us, ws, hl, h0 with | [_], [_], _, _ => rfl) fun a b => a.append b⟩
theorem ro_BadTalks (h : BaseOk K mg cad ⟨"BadTalks", 29, ["index"]⟩) : RowOk P w K mg base cad ⟨"BadTalks", 29, ["index"]⟩ := by
  obtain ⟨fI, fd, iC, tI, F⟩ := h.e1 (by simp)
  exact ⟨fI, fd, ⟨h.E, h.gm, iC, tI, h.no⟩, ok_init1 F ⟨rfl, rfl, rfl, by decide +kernel, rfl, by decide +kernel, by decide +kernel⟩ (Or.inl rfl) (Or.inl rfl) (by decide) (by decide) rfl,
    kbn_of F (fun _ _ _ _ _ _ us ws hl h0 => match us, ws, hl, h0 with | [_, _], [], _, _ => rfl) fun a _ => a,
    kbn_of F (fun _ _ _ _ _ _ us ws hl h0 => match us, ws, hl, h0 with | [_], [_], _, _ => rfl) fun a b => a.append b⟩
theorem ro_BadText (h : BaseOk K mg cad ⟨"BadText", 30, ["line", "sign"]⟩) : RowOk P w K mg base cad ⟨"BadText", 30, ["line", "sign"]⟩ := by
  obtain ⟨fI, fd, iC, tI, F⟩ := h.e1 (by simp)
  exact ⟨by decide, fI, fd, ⟨h.E, h.gm, iC, tI, h.no⟩, ok_init2 F ⟨rfl, rfl, rfl, by decide +kernel, rfl, by decide +kernel, by decide +kernel⟩ (Or.inl rfl) (Or.inl rfl) (Or.inl rfl) (by decide) (by decide) (by decide) (by decide) rfl,
    kbn_of F (fun _ _ _ _ _ _ us ws hl h0 => match us, ws, hl, h0 with | [_, _, _], [], _, _ => rfl) fun a _ => a,
    kbn_of F (fun _ _ _ _ _ _ us ws hl h0 => match us, ws, hl, h0 with | [_], [_, _], _, _ => rfl) fun a b => a.append b.reverse⟩
theorem ro_BadTold (h : BaseOk K mg cad ⟨"BadTold", 31, ["index"]⟩) : RowOk P w K mg base cad ⟨"BadTold", 31, ["index"]⟩ := by
  obtain ⟨fI, fd, iC, tI, F⟩ := h.e1 (by simp)
  exact ⟨fI, fd, ⟨h.E, h.gm, iC, tI, h.no⟩, ok_init1 F ⟨rfl, rfl, rfl, by decide +kernel, rfl, by decide +kernel, by decide +kernel⟩ (Or.inl rfl) (Or.inl rfl) (by decide) (by decide) rfl,
    kbn_of F (fun _ _ _ _ _ _ us ws hl h0 => match us, ws, hl, h0 with | [_, _], [], _, _ => rfl) fun a _ => a,
    kbn_of F (fun _ _ _ _ _ _ us ws hl h0 => match us, ws, hl, h0 with | [_], [_], _, _ => rfl) fun a b => a.append b⟩
theorem ro_BadWord (h : BaseOk K mg cad ⟨"BadWord", 32, ["index"]⟩) : RowOk P w K mg base cad ⟨"BadWord", 32, ["index"]⟩ := by
  obtain ⟨fI, fd, iC, tI, F⟩ := h.e1 (by simp)
  exact ⟨fI, fd, ⟨h.E, h.gm, iC, tI, h.no⟩, ok_init1 F ⟨rfl, rfl, rfl, by decide +kernel, rfl, by decide +kernel, by decide +kernel⟩ (Or.inl rfl) (Or.inl rfl) (by decide) (by decide) rfl,
    kbn_of F (fun _ _ _ _ _ _ us ws hl h0 => match us, ws, hl, h0 with | [_, _], [], _, _ => rfl) fun a _ => a,
    kbn_of F (fun _ _ _ _ _ _ us ws hl h0 => match us, ws, hl, h0 with | [_], [_], _, _ => rfl) fun a b => a.append b⟩
theorem ro_HasRule (h : BaseOk K mg cad ⟨"HasRule", 33, ["rule"]⟩) : RowOk P w K mg base cad ⟨"HasRule", 33, ["rule"]⟩ := by
  obtain ⟨fI, fd, iC, tI, F⟩ := h.e1 (by simp)
  exact ⟨fI, fd, ⟨h.E, h.gm, iC, tI, h.no⟩, ok_init1 F ⟨rfl, rfl, rfl, by decide +kernel, rfl, by decide +kernel, by decide +kernel⟩ (Or.inl rfl) (Or.inl rfl) (by decide) (by decide) rfl,
    kbn_of F (fun _ _ _ _ _ _ us ws hl h0 => match us, ws, hl, h0 with | [_, _], [], _, _ => rfl) fun a _ => a,
    kbn_of F (fun _ _ _ _ _ _ us ws hl h0 => match us, ws, hl, h0 with | [_], [_], _, _ => rfl) fun a b => a.append b⟩
theorem ro_InRow (h : BaseOk K mg cad ⟨"InRow", 34, ["name"]⟩) : RowOk P w K mg base cad ⟨"InRow", 34, ["name"]⟩ := by
  obtain ⟨fI, fd, iC, tI, F⟩ := h.e1 (by simp)
  exact ⟨fI, fd, ⟨h.E, h.gm, iC, tI, h.no⟩, ok_init1 F ⟨rfl, rfl, rfl, by decide +kernel, rfl, by decide +kernel, by decide +kernel⟩ (Or.inl rfl) (Or.inl rfl) (by decide) (by decide) rfl,
    kbn_of F (fun _ _ _ _ _ _ us ws hl h0 => match us, ws, hl, h0 with | [_, _], [], _, _ => rfl) fun a _ => a,
    kbn_of F (fun _ _ _ _ _ _ us ws hl h0 => match us, ws, hl, h0 with | [_], [_], _, _ => rfl) fun a b => a.append b⟩
theorem ro_InUse (h : BaseOk K mg cad ⟨"InUse", 35, ["question"]⟩) : RowOk P w K mg base cad ⟨"InUse", 35, ["question"]⟩ := by
  obtain ⟨fI, fd, iC, tI, F⟩ := h.e1 (by simp)
  exact ⟨fI, fd, ⟨h.E, h.gm, iC, tI, h.no⟩, ok_init1 F ⟨rfl, rfl, rfl, by decide +kernel, rfl, by decide +kernel, by decide +kernel⟩ (Or.inl rfl) (Or.inl rfl) (by decide) (by decide) rfl,
    kbn_of F (fun _ _ _ _ _ _ us ws hl h0 => match us, ws, hl, h0 with | [_, _], [], _, _ => rfl) fun a _ => a,
    kbn_of F (fun _ _ _ _ _ _ us ws hl h0 => match us, ws, hl, h0 with | [_], [_], _, _ => rfl) fun a b => a.append b⟩
theorem ro_IsWatched (h : BaseOk K mg cad ⟨"IsWatched", 36, ["question"]⟩) : RowOk P w K mg base cad ⟨"IsWatched", 36, ["question"]⟩ := by
  obtain ⟨fI, fd, iC, tI, F⟩ := h.e1 (by simp)
  exact ⟨fI, fd, ⟨h.E, h.gm, iC, tI, h.no⟩, ok_init1 F ⟨rfl, rfl, rfl, by decide +kernel, rfl, by decide +kernel, by decide +kernel⟩ (Or.inl rfl) (Or.inl rfl) (by decide) (by decide) rfl,
    kbn_of F (fun _ _ _ _ _ _ us ws hl h0 => match us, ws, hl, h0 with | [_, _], [], _, _ => rfl) fun a _ => a,
    kbn_of F (fun _ _ _ _ _ _ us ws hl h0 => match us, ws, hl, h0 with | [_], [_], _, _ => rfl) fun a b => a.append b⟩
theorem ro_LastRule (h : BaseOk K mg cad ⟨"LastRule", 37, ["name"]⟩) : RowOk P w K mg base cad ⟨"LastRule", 37, ["name"]⟩ := by
  obtain ⟨fI, fd, iC, tI, F⟩ := h.e1 (by simp)
  exact ⟨fI, fd, ⟨h.E, h.gm, iC, tI, h.no⟩, ok_init1 F ⟨rfl, rfl, rfl, by decide +kernel, rfl, by decide +kernel, by decide +kernel⟩ (Or.inl rfl) (Or.inl rfl) (by decide) (by decide) rfl,
    kbn_of F (fun _ _ _ _ _ _ us ws hl h0 => match us, ws, hl, h0 with | [_, _], [], _, _ => rfl) fun a _ => a,
    kbn_of F (fun _ _ _ _ _ _ us ws hl h0 => match us, ws, hl, h0 with | [_], [_], _, _ => rfl) fun a b => a.append b⟩
theorem ro_NoCount (h : BaseOk K mg cad ⟨"NoCount", 38, ["thing"]⟩) : RowOk P w K mg base cad ⟨"NoCount", 38, ["thing"]⟩ := by
  obtain ⟨fI, fd, iC, tI, F⟩ := h.e1 (by simp)
  exact ⟨fI, fd, ⟨h.E, h.gm, iC, tI, h.no⟩, ok_init1 F ⟨rfl, rfl, rfl, by decide +kernel, rfl, by decide +kernel, by decide +kernel⟩ (Or.inl rfl) (Or.inl rfl) (by decide) (by decide) rfl,
    kbn_of F (fun _ _ _ _ _ _ us ws hl h0 => match us, ws, hl, h0 with | [_, _], [], _, _ => rfl) fun a _ => a,
    kbn_of F (fun _ _ _ _ _ _ us ws hl h0 => match us, ws, hl, h0 with | [_], [_], _, _ => rfl) fun a b => a.append b⟩
theorem ro_NoEnd (h : BaseOk K mg cad ⟨"NoEnd", 39, ["name"]⟩) : RowOk P w K mg base cad ⟨"NoEnd", 39, ["name"]⟩ := by
  obtain ⟨fI, fd, iC, tI, F⟩ := h.e1 (by simp)
  exact ⟨fI, fd, ⟨h.E, h.gm, iC, tI, h.no⟩, ok_init1 F ⟨rfl, rfl, rfl, by decide +kernel, rfl, by decide +kernel, by decide +kernel⟩ (Or.inl rfl) (Or.inl rfl) (by decide) (by decide) rfl,
    kbn_of F (fun _ _ _ _ _ _ us ws hl h0 => match us, ws, hl, h0 with | [_, _], [], _, _ => rfl) fun a _ => a,
    kbn_of F (fun _ _ _ _ _ _ us ws hl h0 => match us, ws, hl, h0 with | [_], [_], _, _ => rfl) fun a b => a.append b⟩
theorem ro_NoProc (h : BaseOk K mg cad ⟨"NoProc", 40, ["thing"]⟩) : RowOk P w K mg base cad ⟨"NoProc", 40, ["thing"]⟩ := by
  obtain ⟨fI, fd, iC, tI, F⟩ := h.e1 (by simp)
  exact ⟨fI, fd, ⟨h.E, h.gm, iC, tI, h.no⟩, ok_init1 F ⟨rfl, rfl, rfl, by decide +kernel, rfl, by decide +kernel, by decide +kernel⟩ (Or.inl rfl) (Or.inl rfl) (by decide) (by decide) rfl,
    kbn_of F (fun _ _ _ _ _ _ us ws hl h0 => match us, ws, hl, h0 with | [_, _], [], _, _ => rfl) fun a _ => a,
    kbn_of F (fun _ _ _ _ _ _ us ws hl h0 => match us, ws, hl, h0 with | [_], [_], _, _ => rfl) fun a b => a.append b⟩
theorem ro_NoRoot (h : BaseOk K mg cad ⟨"NoRoot", 41, []⟩) : RowOk P w K mg base cad ⟨"NoRoot", 41, []⟩ := by
  exact ⟨h.E, h.gm, h.e0 rfl⟩
theorem ro_NoRule (h : BaseOk K mg cad ⟨"NoRule", 42, ["letter", "row"]⟩) : RowOk P w K mg base cad ⟨"NoRule", 42, ["letter", "row"]⟩ := by
  obtain ⟨fI, fd, iC, tI, F⟩ := h.e1 (by simp)
  exact ⟨by decide, fI, fd, ⟨h.E, h.gm, iC, tI, h.no⟩, ok_init2 F ⟨rfl, rfl, rfl, by decide +kernel, rfl, by decide +kernel, by decide +kernel⟩ (Or.inl rfl) (Or.inl rfl) (Or.inl rfl) (by decide) (by decide) (by decide) (by decide) rfl,
    kbn_of F (fun _ _ _ _ _ _ us ws hl h0 => match us, ws, hl, h0 with | [_, _, _], [], _, _ => rfl) fun a _ => a,
    kbn_of F (fun _ _ _ _ _ _ us ws hl h0 => match us, ws, hl, h0 with | [_], [_, _], _, _ => rfl) fun a b => a.append b.reverse⟩
theorem ro_NoTalk (h : BaseOk K mg cad ⟨"NoTalk", 43, ["thing"]⟩) : RowOk P w K mg base cad ⟨"NoTalk", 43, ["thing"]⟩ := by
  obtain ⟨fI, fd, iC, tI, F⟩ := h.e1 (by simp)
  exact ⟨fI, fd, ⟨h.E, h.gm, iC, tI, h.no⟩, ok_init1 F ⟨rfl, rfl, rfl, by decide +kernel, rfl, by decide +kernel, by decide +kernel⟩ (Or.inl rfl) (Or.inl rfl) (by decide) (by decide) rfl,
    kbn_of F (fun _ _ _ _ _ _ us ws hl h0 => match us, ws, hl, h0 with | [_, _], [], _, _ => rfl) fun a _ => a,
    kbn_of F (fun _ _ _ _ _ _ us ws hl h0 => match us, ws, hl, h0 with | [_], [_], _, _ => rfl) fun a b => a.append b⟩
theorem ro_NotAlike (h : BaseOk K mg cad ⟨"NotAlike", 44, ["other"]⟩) : RowOk P w K mg base cad ⟨"NotAlike", 44, ["other"]⟩ := by
  obtain ⟨fI, fd, iC, tI, F⟩ := h.e1 (by simp)
  exact ⟨fI, fd, ⟨h.E, h.gm, iC, tI, h.no⟩, ok_init1 F ⟨rfl, rfl, rfl, by decide +kernel, rfl, by decide +kernel, by decide +kernel⟩ (Or.inl rfl) (Or.inl rfl) (by decide) (by decide) rfl,
    kbn_of F (fun _ _ _ _ _ _ us ws hl h0 => match us, ws, hl, h0 with | [_, _], [], _, _ => rfl) fun a _ => a,
    kbn_of F (fun _ _ _ _ _ _ us ws hl h0 => match us, ws, hl, h0 with | [_], [_], _, _ => rfl) fun a b => a.append b⟩
theorem ro_NotChecked (h : BaseOk K mg cad ⟨"NotChecked", 45, ["fault"]⟩) : RowOk P w K mg base cad ⟨"NotChecked", 45, ["fault"]⟩ := by
  obtain ⟨fI, fd, iC, tI, F⟩ := h.e1 (by simp)
  exact ⟨fI, fd, ⟨h.E, h.gm, iC, tI, h.no⟩, ok_init1 F ⟨rfl, rfl, rfl, by decide +kernel, rfl, by decide +kernel, by decide +kernel⟩ (Or.inl rfl) (Or.inl rfl) (by decide) (by decide) rfl,
    kbn_of F (fun _ _ _ _ _ _ us ws hl h0 => match us, ws, hl, h0 with | [_, _], [], _, _ => rfl) fun a _ => a,
    kbn_of F (fun _ _ _ _ _ _ us ws hl h0 => match us, ws, hl, h0 with | [_], [_], _, _ => rfl) fun a b => a.append b⟩
theorem ro_NotClear (h : BaseOk K mg cad ⟨"NotClear", 46, []⟩) : RowOk P w K mg base cad ⟨"NotClear", 46, []⟩ := by
  exact ⟨h.E, h.gm, h.e0 rfl⟩
theorem ro_NotFinished (h : BaseOk K mg cad ⟨"NotFinished", 47, ["index"]⟩) : RowOk P w K mg base cad ⟨"NotFinished", 47, ["index"]⟩ := by
  obtain ⟨fI, fd, iC, tI, F⟩ := h.e1 (by simp)
  exact ⟨fI, fd, ⟨h.E, h.gm, iC, tI, h.no⟩, ok_init1 F ⟨rfl, rfl, rfl, by decide +kernel, rfl, by decide +kernel, by decide +kernel⟩ (Or.inl rfl) (Or.inl rfl) (by decide) (by decide) rfl,
    kbn_of F (fun _ _ _ _ _ _ us ws hl h0 => match us, ws, hl, h0 with | [_, _], [], _, _ => rfl) fun a _ => a,
    kbn_of F (fun _ _ _ _ _ _ us ws hl h0 => match us, ws, hl, h0 with | [_], [_], _, _ => rfl) fun a b => a.append b⟩
theorem ro_NotPrime (h : BaseOk K mg cad ⟨"NotPrime", 48, ["thing"]⟩) : RowOk P w K mg base cad ⟨"NotPrime", 48, ["thing"]⟩ := by
  obtain ⟨fI, fd, iC, tI, F⟩ := h.e1 (by simp)
  exact ⟨fI, fd, ⟨h.E, h.gm, iC, tI, h.no⟩, ok_init1 F ⟨rfl, rfl, rfl, by decide +kernel, rfl, by decide +kernel, by decide +kernel⟩ (Or.inl rfl) (Or.inl rfl) (by decide) (by decide) rfl,
    kbn_of F (fun _ _ _ _ _ _ us ws hl h0 => match us, ws, hl, h0 with | [_, _], [], _, _ => rfl) fun a _ => a,
    kbn_of F (fun _ _ _ _ _ _ us ws hl h0 => match us, ws, hl, h0 with | [_], [_], _, _ => rfl) fun a b => a.append b⟩
theorem ro_NotShortest (h : BaseOk K mg cad ⟨"NotShortest", 49, ["word"]⟩) : RowOk P w K mg base cad ⟨"NotShortest", 49, ["word"]⟩ := by
  obtain ⟨fI, fd, iC, tI, F⟩ := h.e1 (by simp)
  exact ⟨fI, fd, ⟨h.E, h.gm, iC, tI, h.no⟩, ok_init1 F ⟨rfl, rfl, rfl, by decide +kernel, rfl, by decide +kernel, by decide +kernel⟩ (Or.inl rfl) (Or.inl rfl) (by decide) (by decide) rfl,
    kbn_of F (fun _ _ _ _ _ _ us ws hl h0 => match us, ws, hl, h0 with | [_, _], [], _, _ => rfl) fun a _ => a,
    kbn_of F (fun _ _ _ _ _ _ us ws hl h0 => match us, ws, hl, h0 with | [_], [_], _, _ => rfl) fun a b => a.append b⟩
theorem ro_NotSimple (h : BaseOk K mg cad ⟨"NotSimple", 50, ["name"]⟩) : RowOk P w K mg base cad ⟨"NotSimple", 50, ["name"]⟩ := by
  obtain ⟨fI, fd, iC, tI, F⟩ := h.e1 (by simp)
  exact ⟨fI, fd, ⟨h.E, h.gm, iC, tI, h.no⟩, ok_init1 F ⟨rfl, rfl, rfl, by decide +kernel, rfl, by decide +kernel, by decide +kernel⟩ (Or.inl rfl) (Or.inl rfl) (by decide) (by decide) rfl,
    kbn_of F (fun _ _ _ _ _ _ us ws hl h0 => match us, ws, hl, h0 with | [_, _], [], _, _ => rfl) fun a _ => a,
    kbn_of F (fun _ _ _ _ _ _ us ws hl h0 => match us, ws, hl, h0 with | [_], [_], _, _ => rfl) fun a b => a.append b⟩
theorem ro_NotWatched (h : BaseOk K mg cad ⟨"NotWatched", 51, ["question"]⟩) : RowOk P w K mg base cad ⟨"NotWatched", 51, ["question"]⟩ := by
  obtain ⟨fI, fd, iC, tI, F⟩ := h.e1 (by simp)
  exact ⟨fI, fd, ⟨h.E, h.gm, iC, tI, h.no⟩, ok_init1 F ⟨rfl, rfl, rfl, by decide +kernel, rfl, by decide +kernel, by decide +kernel⟩ (Or.inl rfl) (Or.inl rfl) (by decide) (by decide) rfl,
    kbn_of F (fun _ _ _ _ _ _ us ws hl h0 => match us, ws, hl, h0 with | [_, _], [], _, _ => rfl) fun a _ => a,
    kbn_of F (fun _ _ _ _ _ _ us ws hl h0 => match us, ws, hl, h0 with | [_], [_], _, _ => rfl) fun a b => a.append b⟩
theorem ro_StrangeRow (h : BaseOk K mg cad ⟨"StrangeRow", 52, ["name", "index"]⟩) : RowOk P w K mg base cad ⟨"StrangeRow", 52, ["name", "index"]⟩ := by
  obtain ⟨fI, fd, iC, tI, F⟩ := h.e1 (by simp)
  exact ⟨by decide, fI, fd, ⟨h.E, h.gm, iC, tI, h.no⟩, ok_init2 F ⟨rfl, rfl, rfl, by decide +kernel, rfl, by decide +kernel, by decide +kernel⟩ (Or.inl rfl) (Or.inl rfl) (Or.inl rfl) (by decide) (by decide) (by decide) (by decide) rfl,
    kbn_of F (fun _ _ _ _ _ _ us ws hl h0 => match us, ws, hl, h0 with | [_, _, _], [], _, _ => rfl) fun a _ => a,
    kbn_of F (fun _ _ _ _ _ _ us ws hl h0 => match us, ws, hl, h0 with | [_], [_, _], _, _ => rfl) fun a b => a.append b.reverse⟩
theorem ro_WouldChange (h : BaseOk K mg cad ⟨"WouldChange", 53, ["question", "why"]⟩) : RowOk P w K mg base cad ⟨"WouldChange", 53, ["question", "why"]⟩ := by
  obtain ⟨fI, fd, iC, tI, F⟩ := h.e1 (by simp)
  exact ⟨by decide, fI, fd, ⟨h.E, h.gm, iC, tI, h.no⟩, ok_init2 F ⟨rfl, rfl, rfl, by decide +kernel, rfl, by decide +kernel, by decide +kernel⟩ (Or.inl rfl) (Or.inl rfl) (Or.inl rfl) (by decide) (by decide) (by decide) (by decide) rfl,
    kbn_of F (fun _ _ _ _ _ _ us ws hl h0 => match us, ws, hl, h0 with | [_, _, _], [], _, _ => rfl) fun a _ => a,
    kbn_of F (fun _ _ _ _ _ _ us ws hl h0 => match us, ws, hl, h0 with | [_], [_, _], _, _ => rfl) fun a b => a.append b.reverse⟩
theorem ro_rowsA (h : ∀ r ∈ rowsA, BaseOk K mg cad r) : ∀ r ∈ rowsA, RowOk P w K mg base cad r := by
  intro r hr
  have b := h r hr
  simp only [rowsA, List.mem_cons, List.not_mem_nil, or_false] at hr
  rcases hr with rfl | rfl | rfl | rfl | rfl | rfl | rfl | rfl | rfl | rfl | rfl | rfl | rfl | rfl | rfl | rfl | rfl | rfl
  · exact ro_BadAnswers b
  · exact ro_BadBody b
  · exact ro_BadBook b
  · exact ro_BadChoices b
  · exact ro_BadChosen b
  · exact ro_BadDeed b
  · exact ro_BadForm b
  · exact ro_BadLast b
  · exact ro_BadLetter b
  · exact ro_BadLong b
  · exact ro_BadMany b
  · exact ro_BadMost b
  · exact ro_BadName b
  · exact ro_BadNames b
  · exact ro_BadNumber b
  · exact ro_BadOther b
  · exact ro_BadPlan b
  · exact ro_BadProcs b
theorem ro_rowsB (h : ∀ r ∈ rowsB, BaseOk K mg cad r) : ∀ r ∈ rowsB, RowOk P w K mg base cad r := by
  intro r hr
  have b := h r hr
  simp only [rowsB, List.mem_cons, List.not_mem_nil, or_false] at hr
  rcases hr with rfl | rfl | rfl | rfl | rfl | rfl | rfl | rfl | rfl | rfl | rfl | rfl | rfl | rfl | rfl | rfl | rfl | rfl
  · exact ro_BadProgram b
  · exact ro_BadQuestion b
  · exact ro_BadRow b
  · exact ro_BadRows b
  · exact ro_BadRule b
  · exact ro_BadSecond b
  · exact ro_BadSession b
  · exact ro_BadString b
  · exact ro_BadTable b
  · exact ro_BadTalks b
  · exact ro_BadText b
  · exact ro_BadTold b
  · exact ro_BadWord b
  · exact ro_HasRule b
  · exact ro_InRow b
  · exact ro_InUse b
  · exact ro_IsWatched b
  · exact ro_LastRule b
theorem ro_rowsC (h : ∀ r ∈ rowsC, BaseOk K mg cad r) : ∀ r ∈ rowsC, RowOk P w K mg base cad r := by
  intro r hr
  have b := h r hr
  simp only [rowsC, List.mem_cons, List.not_mem_nil, or_false] at hr
  rcases hr with rfl | rfl | rfl | rfl | rfl | rfl | rfl | rfl | rfl | rfl | rfl | rfl | rfl | rfl | rfl | rfl
  · exact ro_NoCount b
  · exact ro_NoEnd b
  · exact ro_NoProc b
  · exact ro_NoRoot b
  · exact ro_NoRule b
  · exact ro_NoTalk b
  · exact ro_NotAlike b
  · exact ro_NotChecked b
  · exact ro_NotClear b
  · exact ro_NotFinished b
  · exact ro_NotPrime b
  · exact ro_NotShortest b
  · exact ro_NotSimple b
  · exact ro_NotWatched b
  · exact ro_StrangeRow b
  · exact ro_WouldChange b
end
end K0
set_option maxHeartbeats 0
namespace K0
open PySem PySem.Spec PyProof.Rows L2 LamX
/-- an empty table of code objects -/
abbrev noTab : Obj := { cls := .none, data := .fields #[] }
/-- what is tracked at the law's call: the tables, and the script if the written part has it not -/
def track (K : PySem.W.Frag) (ts : List Addr) (a : Addr) (o : Obj) (xs : List V) : Hp := fun j =>
  if j ∈ ts then some (.tbl #[]) else if j = a ∧ K.lookup a = none then some (.frz o (.lst xs)) else none
section
variable {P : Program} {w : World} {K : PySem.W.Frag} {mg mb : Str → Option Value} {k : Nat} {f a : Addr} {cs : List (Addr × Addr)} {fd : FuncData} {x : Str} {sp : Sp} {s : Shared} {us : List Value} {ns : List Int}
/-- the whole call, at the caller's place: no object is within its own repr there -/
theorem call_end (kin : K.In s.heap) (gm : s.heap.Ns mainGlobals mg) (bn : s.heap.Ns builtinsNs mb) (bb : ∀ y : Str, y ≠ "__name__" → mb y = bootBuiltins y) (nl : s.heap.NoLimit) (ng : s.gens = #[])
    (emp : ∀ p ∈ cs, s.heap.get? p.2 = some noTab) (nk : ∀ p ∈ cs, K.lookup p.2 = none) (cd : ∀ p ∈ cs, PySem.W.CodeHd s.heap p.1 p.2)
    (bm : ∃ (m : Addr) (ob : Obj), mg "__builtins__" = some (.ref m) ∧ m ≠ builtinsNs ∧ s.heap.get? m = some ob ∧ ob.cls = .type "module" ∧ ob.dict = some builtinsNs ∧ ob.data = .plain)
    (sa : s.heap.get? a = some { cls := .type "list", data := .seq us.toArray }) (ia : IntsAre us ns) (la : ns.length ≤ sizeLine) (rm : Room k callerA)
    (F : ∀ base : Heap, K.In base → base.Ns mainGlobals mg → (∀ p ∈ cs, TabB base mg p.1 p.2) → OkG P w K mg base k f fd [x] sp) (bd : ∀ (z : Shared) (u : Value), BindsTo z fd ⟨[u], []⟩ [(x, u)])
    (ask : ∀ H : Hp, (∀ p ∈ cs, H p.2 = some (.tbl #[])) → SqL K H a (ns.map V.int) → sp [.ref a] H (fun v _ => v = .bl true) E0) :
    codeAny (model P w) callerA (.call (.ref f) ⟨[.ref a], []⟩) (fun r z => r = .ok (.ret (.bool true)) ∧ OldK s.heap z.heap ∧ z.os = s.os ∧ AllBare z.gens) s := by
  have rv := vals_ints ia
  have lu := ia.length
  -- which addresses are tracked
  have tabAt : ∀ j ∈ cs.map (·.2), s.heap.get? j = some noTab := fun j hj => by
    obtain ⟨p, hp, rfl⟩ := List.mem_map.mp hj
    exact emp p hp
  have inT : ∀ p ∈ cs, p.2 ∈ cs.map (·.2) := fun p hp => List.mem_map_of_mem hp
  have aOut : a ∉ cs.map (·.2) := fun hj => by
    have e := (tabAt a hj).symm.trans sa
    simp [noTab] at e
  let tr := track K (cs.map (·.2)) a { cls := .type "list", data := .seq us.toArray } (ns.map V.int)
  have trT : ∀ p ∈ cs, tr p.2 = some (.tbl #[]) := fun p hp => if_pos (inT p hp)
  have trN : ∀ j, j ∉ cs.map (·.2) → ¬(j = a ∧ K.lookup a = none) → tr j = none := fun j h1 h2 => (if_neg h1).trans (if_neg h2)
  have trA : K.lookup a = none → tr a = some (.frz { cls := .type "list", data := .seq us.toArray } (.lst (ns.map V.int))) := fun h => (if_neg aOut).trans (if_pos ⟨rfl, h⟩)
  -- an object that is neither an empty table nor a list is not tracked
  have free : ∀ {j : Addr} {o : Obj}, s.heap.get? j = some o → (∀ vs n, o.data ≠ .seq vs n) → o.data ≠ .fields #[] → tr j = none := fun {j o} e h1 h2 => by
    refine trN j (fun hj => ?_) fun ⟨ja, _⟩ => ?_
    · rw [tabAt j hj] at e
      cases e
      exact h2 rfl
    · rw [ja, sa] at e
      cases e
      exact h1 _ _ rfl
  have nsB : ∀ {j : Addr} {m : Str → Option Value}, s.heap.Ns j m → (hidT s.heap tr).Ns j m := fun ⟨o, es, ep, e, d, r⟩ =>
    ⟨o, es, ep, hidT_get e (free e (fun _ _ z => by rw [d] at z; cases z) (fun z => by rw [d] at z; cases z)), d, r⟩
  have kinB : K.In (hidT s.heap tr) := fun j o e => hidT_get (kin j o e) (trN j (fun hj => by
    obtain ⟨p, hp, rfl⟩ := List.mem_map.mp hj
    rw [nk p hp] at e
    cases e) fun ⟨ja, z⟩ => by
      rw [ja, z] at e
      cases e)
  have modB : L2.Mod K mg (hidT s.heap tr) := by
    refine ⟨kinB, nsB gm, ⟨mb, nsB bn, bb⟩, ?_⟩
    obtain ⟨mc, h1, h2⟩ := nl
    exact ⟨mc, nsB h1, h2⟩
  have globB : ∀ j, s.heap.get? j = some noTab → mainGlobals ≠ j := fun j e z => by
    obtain ⟨o, es, ep, e2, d, _⟩ := gm
    rw [z, e] at e2
    cases e2
    cases d
  have tabB : ∀ p ∈ cs, TabB (hidT s.heap tr) mg p.1 p.2 := fun p hp => by
    refine ⟨?_, ?_, globB _ (emp p hp)⟩
    · obtain ⟨o, vs, file, tf, flags, tg, inF, text, tt, e1, r1, r2, r3, rest⟩ := cd p hp
      refine ⟨o, vs, file, tf, flags, tg, inF, text, tt, hidT_get e1 (free e1 (fun _ _ z => by rw [r2] at z; cases z) fun z => ?_), r1, r2, r3, rest⟩
      rw [r2] at z
      cases z
      simp at r3
    · obtain ⟨m, ob, b1, b2, b3, b4, b5, b6⟩ := bm
      refine ⟨m, ob, b1, b2, fun q => ?_, fun q => ?_, hidT_get b3 (free b3 (fun _ _ z => by rw [b6] at z; cases z) (fun z => by rw [b6] at z; cases z)), b4, b5, b6⟩
      · obtain ⟨o, es, ep, e2, d, _⟩ := gm
        rw [q, e2] at b3
        cases b3
        rw [d] at b6
        cases b6
      · rw [q, emp p hp] at b3
        cases b3
        cases b6
  -- what is tracked is there
  have ok : HOk P w tr s.heap := fun j u z => by
    by_cases hj : j ∈ cs.map (·.2)
    · have e : some u = some (.tbl #[]) := z.symm.trans (if_pos hj)
      cases e
      exact tabAt j hj
    · by_cases hq : j = a ∧ K.lookup a = none
      · obtain ⟨rfl, hk⟩ := hq
        have e := z.symm.trans (trA hk)
        cases e
        exact ⟨sa, by rw [List.length_map]; exact la, us, _, rv, sa⟩
      · have e := z.symm.trans (trN j hj hq)
        cases e
  have sq : SqL K tr a (ns.map V.int) := by
    cases hk : K.lookup a with
    | none => exact .inl (.inr ⟨_, trA hk⟩)
    | some o =>
      have e := (kin a o hk).symm.trans sa
      cases e
      exact .inr ⟨_, us.toArray, _, hk, rfl, rfl, rfl, by rw [List.size_toArray, lu]; exact la, by simpa using rv⟩
  have e0 : Env0 P w K mg (hidT s.heap tr) callerA [] s tr := ⟨rfl, modB, fun j o e => of_hidT e, Nat.le_of_eq (hidT_size _ _), trivial, (fun j hj => absurd (show j ∈ ([] : List Addr) from hj) (by simp)), ok, .of_eq ng⟩
  refine codeAny_mono ((F _ kinB (nsB gm) tabB).go callerA [] s tr [.ref a] [.ref a] _ rm rfl e0 (bd s (.ref a)) (.cons rfl .nil) (ask tr trT sq)) fun r z hz => ?_
  match r, hz with
  | .ok (.ret u), hz =>
    obtain ⟨v, H', os, bare, un, ok', ru, q⟩ := hz
    have q2 : v = .bl true := q
    subst q2
    obtain rfl : u = Value.bool true := ru
    have stays : ∀ j o, j ∉ cs.map (·.2) → s.heap.get? j = some o → z.heap.get? j = some o := fun j o hj e => by
      by_cases hq : j = a ∧ K.lookup a = none
      · obtain ⟨rfl, hk⟩ := hq
        obtain ⟨e2, _⟩ := ok' _ _ (un.frzs _ _ _ (trA hk))
        rw [sa] at e
        cases e
        exact e2
      · exact un.keep j o e (trN j hj hq) (fun y => absurd (show j ∈ ([] : List Addr) from y) (by simp)) (by simp)
    have grows : ∀ p ∈ cs, ∃ more : Array Value, z.heap.get? p.2 = some { cls := .none, data := .fields more } := fun p hp => by
      obtain ⟨more, y⟩ := un.tbls p.2 #[] (trT p hp)
      exact ⟨_, ok' p.2 _ y⟩
    refine ⟨rfl, ⟨fun j o e => ?_, fun j o e => ?_⟩, os, bare⟩
    all_goals
      by_cases hj : j ∈ cs.map (·.2)
    · obtain ⟨p, hp, rfl⟩ := List.mem_map.mp hj
      obtain ⟨more, y⟩ := grows p hp
      rw [emp p hp] at e
      cases e
      exact .inr (.inl ⟨((cd p hp).tab (emp p hp)).isCodeTable, rfl, #[], more, rfl, by rw [Array.empty_append]; exact y⟩)
    · exact .inl (stays j o hj e)
    · obtain ⟨p, hp, rfl⟩ := List.mem_map.mp hj
      obtain ⟨more, y⟩ := grows p hp
      exact ⟨_, y⟩
    · exact ⟨o, stays j o hj e⟩
end
end K0
set_option maxHeartbeats 0
namespace K0
open K0h PySem PySem.Spec PyProof.Rows L2 LamX
/-- the three tables, and the name that their code objects bear -/
def TT (K : PySem.W.Frag) : List (Addr × Str) := [((He.cT K ("_law_made_a", none)).2, "_law_made_a.<locals>.<lambda>"), ((He.cT K ("_law_made_b", none)).2, "_law_made_b.<locals>.<lambda>"), ((He.cT K ("_law_made_c", none)).2, "_law_made_c.<locals>.<lambda>")]
theorem tabs0 {K : PySem.W.Frag} {H : Hp} (h : ∀ p ∈ tf.map (He.cT K), H p.2 = some (.tbl #[])) : Tabs (TT K) H := by
  have one : ∀ d ∈ tf, ∀ q, TabS H (He.cT K d).2 q := fun d hd q => ⟨#[], h _ (List.mem_map_of_mem hd), trivial, fun _ _ z => by cases z⟩
  intro p hp
  simp only [TT, List.mem_cons, List.not_mem_nil, or_false] at hp
  rcases hp with rfl | rfl | rfl
  · exact one ("_law_made_a", none) (by simp [tf]) _
  · exact one ("_law_made_b", none) (by simp [tf]) _
  · exact one ("_law_made_c", none) (by simp [tf]) _
theorem facts {P : Program} {w : World} {K : PySem.W.Frag} {h : Heap} {mg : Str → Option Value} {f : Addr} (X : K.In h) (Gn : h.Ns mainGlobals mg) (hfa : mg ("law" : Str) = some (.ref f)) (c : Says3 w h K) :
    ∃ fd : FuncData, (∀ (s : Shared) (u : Value), BindsTo s fd ⟨[u], []⟩ [("_law_script", u)]) ∧
      ∀ base : Heap, K.In base → base.Ns mainGlobals mg → (∀ p ∈ tf.map (He.cT K), TabB base mg p.1 p.2) → OkG P w K mg base 4 f fd ["_law_script"] (spLaw K (TT K)) := by
  have gl : ∀ x, He.Fa.glo x ∈ fa → mg x = some (.ref (He.ga K x)) := fun x hx => He.glo_ok X Gn (c.a.t.d.facts hx)
  have fr : ∀ x, He.Fa.free x ∈ fa → mg x = none := fun x hx => He.free_ok X Gn (c.a.t.d.facts hx)
  have ek : ex K = true := c.a.more
  have glR : ∀ r ∈ rows, mg r.nm = some (.ref (He.ga K r.nm)) := fun r hr => gl r.nm (List.mem_append_left _ (List.mem_append_right _ (List.mem_map.mpr ⟨r, hr, rfl⟩)))
  have glD : ∀ d ∈ defsG, mg d.name = some (.ref (He.ga K d.name)) := fun d hd => gl d.name (List.mem_append_right _ (List.mem_map.mpr ⟨d, hd, rfl⟩))
  have G : Glb mg := ⟨fr _ (by simp [fa]), fr _ (by simp [fa]), fr _ (by simp [fa]), fr _ (by simp [fa]), fr _ (by simp [fa]), fr _ (by simp [fa]), fr _ (by simp [fa]), fr _ (by simp [fa]), fr _ (by simp [fa])⟩
  obtain ⟨dS, FS⟩ : ∃ fd, FnP K "_law_start" 55 (He.ga K "_law_start") fd := c.b.t.d.def_ 0 (d := dG "_law_start" 55) rfl
  obtain ⟨dD, FD⟩ : ∃ fd, FnP K "_law_draw" 56 (He.ga K "_law_draw") fd := c.b.t.d.def_ 1 (d := dG "_law_draw" 56) rfl
  obtain ⟨dM, FM⟩ : ∃ fd, FnP K "_law_mixed" 57 (He.ga K "_law_mixed") fd := c.b.t.d.def_ 2 (d := dG "_law_mixed" 57) rfl
  obtain ⟨dA, FA⟩ : ∃ fd, FnP K "_law_made_a" 58 (He.fAd K ("_law_made_a", none)) fd := c.b.t.d.def_ 3 (d := dG "_law_made_a" 58) rfl
  obtain ⟨dB, FB⟩ : ∃ fd, FnP K "_law_made_b" 59 (He.fAd K ("_law_made_b", none)) fd := c.b.t.d.def_ 4 (d := dG "_law_made_b" 59) rfl
  obtain ⟨dC, FC⟩ : ∃ fd, FnP K "_law_made_c" 60 (He.fAd K ("_law_made_c", none)) fd := c.b.t.d.def_ 5 (d := dG "_law_made_c" 60) rfl
  obtain ⟨dKa, FKa⟩ : ∃ fd, FnP K "_law_kinds_a" 61 (He.ga K "_law_kinds_a") fd := c.b.t.d.def_ 6 (d := dG "_law_kinds_a" 61) rfl
  obtain ⟨dKb, FKb⟩ : ∃ fd, FnP K "_law_kinds_b" 62 (He.ga K "_law_kinds_b") fd := c.b.t.d.def_ 7 (d := dG "_law_kinds_b" 62) rfl
  obtain ⟨dKc, FKc⟩ : ∃ fd, FnP K "_law_kinds_c" 63 (He.ga K "_law_kinds_c") fd := c.b.t.d.def_ 8 (d := dG "_law_kinds_c" 63) rfl
  obtain ⟨dK, FK⟩ : ∃ fd, FnP K "_law_kinds" 64 (He.ga K "_law_kinds") fd := c.b.t.d.def_ 9 (d := dG "_law_kinds" 64) rfl
  obtain ⟨dO, FO⟩ : ∃ fd, FnP K "_law_is_own" 65 (He.ga K "_law_is_own") fd := c.b.t.d.def_ 10 (d := dG "_law_is_own" 65) rfl
  obtain ⟨dT, FT⟩ : ∃ fd, FnP K "_law_are_these" 66 (He.ga K "_law_are_these") fd := c.b.t.d.def_ 11 (d := dG "_law_are_these" 66) rfl
  obtain ⟨fd, FL⟩ : ∃ fd, FnP K "law" 67 (He.ga K "law") fd := c.b.t.d.def_ 12 (d := dG "law" 67) rfl
  have g : ∀ i x, (hi : i < defsG.length) → defsG[i].name = x → mg x = some (.ref (He.ga K x)) := fun i x hi e => by
    rw [← e]
    exact glD _ (List.getElem_mem hi)
  have e := hfa.symm.trans (g 12 "law" (by decide) rfl)
  cases e
  -- the own defs of the classes
  have own : ∀ r ∈ rows, r.ps ≠ [] → ∃ fd, FunD K "__init__" (r.nm ++ ".__init__") (defArgs (inner r.at_)) (defBody (inner r.at_)) (defScope (inner r.at_)) [] [] (He.ma K (He.ga K r.nm) "__init__") fd := fun r hr hp => by
    have hf : (!r.ps.isEmpty) = true := by
      cases q : r.ps with
      | nil => exact absurd q hp
      | cons _ _ => rfl
    have hr2 : r ∈ rowsA ∨ r ∈ rowsB ++ rowsC := by
      rcases List.mem_append.mp hr with z | z
      · rcases List.mem_append.mp z with z | z
        · exact .inl z
        · exact .inr (List.mem_append_left _ z)
      · exact .inr (List.mem_append_right _ z)
    rcases hr2 with z | z
    · exact c.b.t.d.defs (d := r.d) (List.mem_append_right _ (List.mem_map_of_mem (List.mem_filter.mpr ⟨z, hf⟩)))
    · exact c.c.t.d.defs (d := r.d) (List.mem_map_of_mem (List.mem_filter.mpr ⟨z, hf⟩))
  have cl := cls_of ek
  have base : ∀ r ∈ rows, BaseOk K mg (He.ga K) r := fun r hr => by
    obtain ⟨r1, r2, r3⟩ := row_of ek hr
    refine ⟨(cl r hr).E, glR r hr, r1, r2, fun hp => ?_⟩
    obtain ⟨z1, z2⟩ := r3 hp
    obtain ⟨fd, z3⟩ := own r hr hp
    exact ⟨_, fd, z1, z2, z3⟩
  obtain ⟨Z, zV, zk⟩ := base_of ek (gl "TalkError" (by simp [fa]))
  have b := FunD.bindsA (ps := ["_law_script"]) FL fun _ _ _ _ _ _ us hl => match us, hl with | [_], _ => rfl
  refine ⟨fd, fun s v => b s [v] rfl, fun bs kb nb tb => ?_⟩
  have RA : ∀ r ∈ rowsA, RowOk P w K mg bs (He.ga K) r := ro_rowsA fun r hr => base r (by simp [rows, hr])
  have RB : ∀ r ∈ rowsB, RowOk P w K mg bs (He.ga K) r := ro_rowsB fun r hr => base r (by simp [rows, hr])
  have RC : ∀ r ∈ rowsC, RowOk P w K mg bs (He.ga K) r := ro_rowsC fun r hr => base r (by simp [rows, hr])
  have tA : TabB bs mg (He.cT K ("_law_made_a", none)).1 (He.cT K ("_law_made_a", none)).2 := tb _ (by simp [tf])
  have tB : TabB bs mg (He.cT K ("_law_made_b", none)).1 (He.cT K ("_law_made_b", none)).2 := tb _ (by simp [tf])
  have tC : TabB bs mg (He.cT K ("_law_made_c", none)).1 (He.cT K ("_law_made_c", none)).2 := tb _ (by simp [tf])
  have ap : apart [(He.cT K ("_law_made_a", none)).2, (He.cT K ("_law_made_b", none)).2, (He.cT K ("_law_made_c", none)).2] = true := c.b.more
  obtain ⟨nAB, nAC, nBC⟩ : (He.cT K ("_law_made_a", none)).2 ≠ (He.cT K ("_law_made_b", none)).2 ∧ (He.cT K ("_law_made_a", none)).2 ≠ (He.cT K ("_law_made_c", none)).2 ∧ (He.cT K ("_law_made_b", none)).2 ≠ (He.cT K ("_law_made_c", none)).2 := by
    simp [apart] at ap
    exact ⟨Nat.ne_of_beq_eq_false ap.1.1, Nat.ne_of_beq_eq_false ap.1.2, Nat.ne_of_beq_eq_false ap.2⟩
  have OK2 := ok_kinds (P := P) (w := w) (base := bs) FK FKa FKb FKc G (g 6 "_law_kinds_a" (by decide) rfl) (g 7 "_law_kinds_b" (by decide) rfl) (g 8 "_law_kinds_c" (by decide) rfl) glR
  refine ok_law FL G (cad := He.ga K) (TE := He.ga K "TalkError") (T := TT K) (dS := dS) (dM := dM) (dA := dA) (dB := dB) (dC := dC) (dO := dO) (dT := dT) (dK := dK)
    { oS := ok_start FS G
      oM := ok_mixed FM G FD (g 1 "_law_draw" (by decide) rfl)
      oA := ok_made_a FA tA (by simp [TT]) (fun p hp e => ?_) RA
      oB := ok_made_b FB tB (by simp [TT]) (fun p hp e => ?_) RB
      oC := ok_made_c FC tC (by simp [TT]) (fun p hp e => ?_) RC
      oO := ok_own FO FK G OK2 (g 9 "_law_kinds" (by decide) rfl) (gl "TalkError" (by simp [fa]))
      oT := ok_these FT G
      oK := OK2
      gS := g 0 "_law_start" (by decide) rfl
      gM := g 2 "_law_mixed" (by decide) rfl
      gA := g 3 "_law_made_a" (by decide) rfl
      gB := g 4 "_law_made_b" (by decide) rfl
      gC := g 5 "_law_made_c" (by decide) rfl
      gO := g 10 "_law_is_own" (by decide) rfl
      gT := g 11 "_law_are_these" (by decide) rfl
      gK := g 9 "_law_kinds" (by decide) rfl
      kS := FS.kp, kM := FM.kp, kA := FA.kp, kB := FB.kp, kC := FC.kp, kO := FO.kp, kT := FT.kp, kK := FK.kp
      bS := FS.bindsN fun _ _ _ _ _ _ us hl => match us, hl with | [_], _ => rfl
      bM := FM.bindsN fun _ _ _ _ _ _ us hl => match us, hl with | [_, _], _ => rfl
      bA := FA.bindsN fun _ _ _ _ _ _ us hl => match us, hl with | [_, _, _], _ => rfl
      bB := FB.bindsN fun _ _ _ _ _ _ us hl => match us, hl with | [_, _, _], _ => rfl
      bC := FC.bindsN fun _ _ _ _ _ _ us hl => match us, hl with | [_, _, _], _ => rfl
      bO := FO.bindsN fun _ _ _ _ _ _ us hl => match us, hl with | [_, _], _ => rfl
      bT := FT.bindsN fun _ _ _ _ _ _ us hl => match us, hl with | [_, _], _ => rfl
      bK := FK.bindsN fun _ _ _ _ _ _ us hl => match us, hl with | [_], _ => rfl
      Z := Z, zV := zV, zk := zk, cl := cl }
  all_goals
    simp only [TT, List.mem_cons, List.not_mem_nil, or_false] at hp
    rcases hp with rfl | rfl | rfl
  · rfl
  · exact absurd e.symm nAB
  · exact absurd e.symm nAC
  · exact absurd e nAB
  · rfl
  · exact absurd e.symm nBC
  · exact absurd e nAC
  · exact absurd e nBC
  · rfl
end K0
set_option maxHeartbeats 0
namespace K0
open K0h PySem PySem.W PySem.Calls PyProof.Rows L2 LamX
abbrev lw : PySem.W.OpenLaw := PySem.Challenge.rw_primetalks_k00_errors_made
theorem walk {XP : (PySem.Str → Option Value) → Heap → Prop} : PySem.W.WalkO qv names XP hk3.says lw.row.toRowW (HandSHeadRun.topDef R.prog 67) [] (fun f vs => PySem.call f vs) := by
  refine Att.attach_callB (n := 63) (by rfl) (by kernel_rfl) fun w s₀ s₁ mg mb f o pm cd doc a vs ns G Y ho hd hcd hmg0 hobj hints hlen hbits hg => ?_
  obtain ⟨K, KX, c⟩ := Y
  have hmg : mg ("law" : PySem.Str) = some (.ref f) := by
    have e : (HandSHeadRun.topDef R.prog 67).name = ("law" : PySem.Str) := by kernel_rfl
    rw [← e]
    exact hmg0
  obtain ⟨fd, hb, hF⟩ := facts (P := lw.prog) (w := w) KX G.T.g hmg c
  refine call_end (cs := tf.map (He.cT K)) KX G.T.g G.T.b G.T.builtins G.T.nolimit hg (fun p hp => ?_) (fun p hp => ?_) (fun p hp => ?_) G.T.bmain hobj hints (Nat.le_trans hlen (by decide)) ⟨rfl, by decide, by decide⟩ hF hb
    (fun H hH hS => ⟨a, ns, rfl, hS, tabs0 hH, fun _ => rfl⟩)
  · obtain ⟨d, hd2, rfl⟩ := List.mem_map.mp hp
    exact c.b.empty d hd2
  · obtain ⟨d, hd2, rfl⟩ := List.mem_map.mp hp
    exact c.b.out d hd2
  · obtain ⟨d, hd2, rfl⟩ := List.mem_map.mp hp
    exact PySem.W.codeHd_of_K KX (c.b.hd d hd2)
end K0
open PySem PySem.W PySem.Calls PyProof.Rows
theorem PySem.Challenge.cw_primetalks_k00_errors_made_holds : PySem.Challenge.rw_primetalks_k00_errors_made.Holds := by
  w_on; o_law
  refine HandSHeadRun.head_any (r := K0h.R) (q := K0h.qv) (H := K0h.hk3) (ob := K0h.ob3x) (M := 20000) (loose := K0h.names) (d := HandSHeadRun.topDef K0h.R.prog 67) (kwd := []) K0h.ob3x_eq
    (by kernel_rfl) (fun s => by kernel_rfl) K0h.run (by kernel_rfl) (by kernel_rfl) (by kernel_rfl) (by rfl) (by first | assumption | decide +kernel) (by decide +kernel) ⟨rfl, rfl, rfl, rfl, rfl, by decide +kernel⟩ ?hw ?hc
  case hw => w_witness2
  case hc => exact K0.walk
