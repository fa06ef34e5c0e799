import PyProof.Rows.All
import Wide.All
import OpenK.AllK
import Wide.FinOn
import PySem.Challenge.RW_tailheard_k28_files_told
import HandS.Defaults
import HandS.Head0
import HandS.Head1
import HandS.Head2
import HandS.HeadEnd
import HandS.HeadHook1
import HandS.Words
import HandS.ExcField
import HandS.Property
import HandS.ExcOwn
import HandS.ExcIs
import HandS.ClsMeth
import KE.KStateDown
import HandS.ForMost
import HandS.Exc
import HandS.TryOnly
import HandS.WordsExc
import HandS.ExcCtx
import HandS.HotCalls
import HandS.ExcInitHot
import HandS.OwnIter
import HandS.OwnEq
import HandS.Star
import HandS.Walk
import HandS.Zip
import HandS.IsInst
import KE.GoesEnum
import HandS.Replace
import HandS.IterVal
import KE.KExcIs
import PyProof.StrLawsFirst
import HandS.Style
import PyProof.Rows.StrMul
import HandS.TupAny
import HandS.TupMul
import HandS.DictComp
import HandS.Flow
import KE.GoesNew
import PyProof.ReprRoads
import HandS.RaiseMore
set_option Elab.async false
set_option linter.all false
set_option maxRecDepth 100000
namespace K28
section
set_option maxHeartbeats 4000000
open PySem PySem.Spec PyProof.Rows L2
def top (i : Nat) : Stmt := PySem.Challenge.pw_tailheard_k28_files_told.main.body.getD i (.Pass ⟨0, 0, 0, 0⟩)
def bltH : List Str := ["int", "bool", "str", "list", "tuple", "len", "isinstance", "range", "all", "any", "sum", "abs", "sorted", "zip", "enumerate", "ValueError", "min", "max", "dict", "set", "repr"]
abbrev Fg := PySem.W.Frag
structure FD where
  ad : Fg → Addr
  x : Str
  qual : Str
  st : Stmt
  dfl : Bool
def FD.val (d : FD) : He.FnV := some (d.x, d.qual, defArgs d.st, .stmts (defBody d.st), defScope d.st, mainGlobals, [], .none, builtinsNs)
def FD.obs (K : Fg) (d : FD) : He.FnV := match K.lookup (d.ad K) with
  | some ⟨_, _, .func fd, _⟩ => some (fd.name, fd.qualname, fd.params, fd.body, fd.scope, fd.globals, fd.closure, (if d.dfl = true then .none else fd.defaults), fd.builtins)
  | _ => none
def FD.ok (K : Fg) (d : FD) : Bool := PySem.W.keepIn K (.ref (d.ad K)) && (match K.lookup (d.ad K) with
  | some ⟨_, _, .func fd, _⟩ => PySem.W.codeIn K fd.code d.qual
  | _ => false)
def dflt (K : Fg) (a : Addr) : Value := match K.lookup a with
  | some ⟨_, _, .func fd, _⟩ => fd.defaults
  | _ => .none
def empB (K : Fg) (a : Addr) : Bool := match K.lookup a with
  | some ⟨.type n, _, .seq its _, _⟩ => decide (n = "tuple") && its.toList.isEmpty
  | _ => false
def dfB (K : Fg) (a : Addr) : Bool := match dflt K a with
  | .ref T => (match K.lookup T with
    | some ⟨_, _, .seq its _, _⟩ => (match its.toList with
      | [.int i _, .ref t0] => decide (i = 1) && empB K t0
      | _ => false)
    | _ => false)
  | _ => false
def dT0 (K : Fg) (a : Addr) : Addr := match dflt K a with
  | .ref T => (match K.lookup T with
    | some ⟨_, _, .seq its _, _⟩ => (match its.toList with
      | [.int _ _, .ref t0] => t0
      | _ => 0)
    | _ => 0)
  | _ => 0
abbrev AlK : Type := Bool × List He.FnV
def obsK (ex : Fg → Bool) (fn : List FD) (K : Fg) : AlK := (ex K && fn.all fun d => d.ok K, fn.map fun d => d.obs K)
def valK (fn : List FD) : AlK := (true, fn.map FD.val)
def SaysK (ex : Fg → Bool) (fn : List FD) (K : Fg) : Prop := obsK ex fn K = valK fn
def refs1 (g : Addr → Option Obj) (as : List Addr) : List Addr := as.flatMap fun a => match g a with
  | some o => He.refsO o
  | none => []
def nsOf (o : Obj) : List Addr := match o.data with
  | .cls cd => [cd.ns]
  | _ => []
def ns1 (g : Addr → Option Obj) (as : List Addr) : List Addr := as.flatMap fun a => match g a with
  | some o => nsOf o
  | none => []
def adrs (g : Addr → Option Obj) (G M C : List Addr) : List Addr := cStatics :: mainGlobals :: (ns1 g G ++ (G ++ (M ++ (refs1 g G ++ (C ++ refs1 g C)))))
def adrsOf (g : Addr → Option Obj) : List Addr := adrs g (refs1 g [mainGlobals]) (refs1 g (ns1 g (refs1 g [mainGlobals]))) (refs1 g (refs1 g (ns1 g (refs1 g [mainGlobals]))))
def obsKG (n : Nat) (ex : Fg → Bool) (fn : List FD) (g : Addr → Option Obj) : AlK := obsK ex fn (He.frG g (adrsOf g))
def hookK (n : Nat) (ex : Fg → Bool) (fn : List FD) : PySem.W.Hook where
  α := AlK
  obs := fun s => obsKG n ex fn s.heap.get?
  val := fun _ => valK fn
  says := fun _ h => ∃ K : PySem.W.Frag, K.In h ∧ SaysK ex fn K
  of := fun _ _ e => ⟨_, He.frG_in, e⟩
  keeps := fun _ _ _ ⟨K, hK, c⟩ k => ⟨K, PySem.W.Frag.In.keeps hK k, c⟩
theorem obsKG_eq {n : Nat} {ex : Fg → Bool} {fn : List FD} {g : Addr → Option Obj} {s : Shared} (h : ∀ a, g a = s.heap.get? a) : obsKG n ex fn g = (hookK n ex fn).obs s := by
  have e : g = s.heap.get? := funext h
  rw [e] <;> rfl
def obG (n : Nat) (ex : Fg → Bool) (fn : List FD) (s : PySem.W.SharedT) : AlK := obsKG n ex fn (HandSHeadRun.getT s)
theorem SaysK.exs {ex : Fg → Bool} {fn : List FD} {K : Fg} (c : SaysK ex fn K) : ex K = true := (He.ba (show (ex K && fn.all fun d => d.ok K) = true from congrArg (fun z : AlK => z.1) c)).1
theorem SaysK.at_ {ex : Fg → Bool} {fn : List FD} {K : Fg} (c : SaysK ex fn K) (i : Nat) {d : FD} (h : fn[i]? = some d) : d.obs K = d.val ∧ d.ok K = true := by
  have c2 := (He.ba (show (ex K && fn.all fun d => d.ok K) = true from congrArg (fun z : AlK => z.1) c)).2
  have e : fn.map (fun d => d.obs K) = fn.map FD.val := congrArg (fun z : AlK => z.2) c
  have e2 : (fn.map fun d => d.obs K)[i]? = (fn.map FD.val)[i]? := by rw [e]
  rw [List.getElem?_map, List.getElem?_map, h] at e2
  exact ⟨Option.some.inj e2, List.all_eq_true.mp c2 d (List.mem_of_getElem? h)⟩
def oexB (K : Fg) (C : Addr) : Bool := (match K.lookup C with
  | some ⟨.type n, _, .cls cd, sl⟩ => (match cd.mro, sl.toList with
    | .ref C' :: bm, [_, _, _, _, some (.builtin z), _] => decide (n = "type") && (decide (C' = C) && (decide (z = "ValueError.__new__") && (!cd.hasDel && (cd.hasDict && PySem.HandSPX.refsVE bm))))
    | _, _ => false)
  | _ => false)
def clsN : Nat → Str
  | 2 => "BadWords"
  | 6 => "BadKind"
  | 7 => "BadSpace"
  | 8 => "BadSeat"
  | 9 => "BadColumn"
  | 10 => "BadNumber"
  | 11 => "Twice"
  | 12 => "Unknown"
  | 17 => "BadFile"
  | 25 => "Drill"
  | 26 => "Make"
  | 27 => "Column"
  | 30 => "File"
  | _ => "TailError"
def clsK (K : Fg) (k : Nat) : Addr := He.ga K (clsN k)
abbrev fi_ (K : Fg) (v : Value) (f : Str) (r : Option Value) : Bool := He.eqO (PySem.W.findIn K v f) (some r)
abbrev sp_ (K : Fg) (v : Value) (f : Str) (r : Option Value) : Bool := He.eqO (PySem.W.specialIn K v f) (some r)
abbrev rC (K : Fg) (k : Nat) : Value := .ref (clsK K k)
abbrev mAd (K : Fg) (k : Nat) (m : Str) : Addr := He.ma K (clsK K k) m
def erB (K : Fg) (k : Nat) (f : Str) : Bool := oexB K (clsK K k) && (fi_ K (rC K k) "__setattr__" (some (.builtin "object.__setattr__")) && (decide (PySem.W.subIn K (rC K k) (.type "BaseException") = some true) && (decide (PySem.W.typeIn K (rC K k) = some (.type "type")) &&
  (PySem.W.keepIn K (rC K k) && (fi_ K (rC K k) "__init__" (some (.ref (mAd K k "__init__"))) && (decide (PySem.W.typeIn K (.ref (mAd K k "__init__")) = some (.type "function")) && (fi_ K (rC K k) f none && (fi_ K (rC K k) "__class__" (some (.builtin "object.__class__")) &&
  (L2.xfB K (clsK K k) && (decide (PySem.W.mroIn K (clsK K k) (.type "object") = some true) && (decide (PySem.W.kitOne K (rC K k) (.type "ValueError") = some true) && (decide (PySem.W.exmOne K (rC K k) (rC K 1) = some true) &&
  (sp_ K (.builtin "object.__class__") "__get__" (some (.builtin "getset_descriptor.__get__")) && decide (PySem.W.takesIn K (.builtin "object.__class__") = some true))))))))))))))
def prP (K : Fg) (k : Nat) (m : Str) : Addr := He.ma K (clsK K k) m
def prG (K : Fg) (k : Nat) (m : Str) : Addr := match PySem.W.recIn K (prP K k m) "property" with
  | some (.ref g :: _) => g
  | _ => 0
def meB (K : Fg) (k : Nat) (m : Str) : Bool := fi_ K (rC K k) m (some (.ref (mAd K k m))) && (PySem.W.isFn K (.ref (mAd K k m)) && (PySem.W.keepIn K (.ref (mAd K k m)) && PySem.W.fnIn K (mAd K k m)))
def clB (K : Fg) (k : Nat) (fl : List Str) : Bool := PySem.W.plainGet K (clsK K k) Str.empty && (PySem.W.hasDictIn K (clsK K k) && (PySem.W.plainOver K (clsK K k) && (fi_ K (rC K k) "__setattr__" (some (.builtin "object.__setattr__")) && fl.all fun f => fi_ K (rC K k) f none)))
def inB_ (K : Fg) (k : Nat) : Bool := fi_ K (rC K k) "__class__" (some (.builtin "object.__class__")) && (sp_ K (.builtin "object.__class__") "__get__" (some (.builtin "getset_descriptor.__get__")) && (decide (PySem.W.takesIn K (.builtin "object.__class__") = some true) && (decide (PySem.W.mroIn K (clsK K k) (.type "object") = some true) &&
  (decide (PySem.W.kitOne K (rC K k) (rC K k) = some true) && ["NoneType", "bool", "int", "str", "list", "tuple"].all fun n => decide (PySem.W.kitOne K (.type n) (rC K k) = some false)))))
def conV (K : Fg) (k : Nat) (m : Str) : Value := match PySem.W.findIn K (rC K k) m with
  | some (some v) => v
  | _ => .none
def rdB (K : Fg) (k : Nat) (m : Str) : Bool := PySem.W.readsIn K (clsK K k) (.type "type") && (sp_ K (rC K k) "__getattribute__" (some (.builtin "type.__getattribute__")) && ((match PySem.W.findCls K (rC K k) (.type "type") m with
  | some (.val u) => decide (u = conV K k m)
  | _ => false) && (fi_ K (rC K k) m (some (conV K k m)) && ((match conV K k m with
  | .int 0 _ => true
  | _ => false) && (sp_ K (conV K k m) "__get__" none && !decide (m = "__class__"))))))
def prB (K : Fg) (k : Nat) (m : Str) : Bool := fi_ K (rC K k) m (some (.ref (prP K k m))) && (sp_ K (.ref (prP K k m)) "__get__" (some (.builtin "property.__get__")) && (decide (PySem.W.takesIn K (.ref (prP K k m)) = some true) && (match PySem.W.recIn K (prP K k m) "property" with
  | some (.ref g :: _) => true
  | _ => false)))
def mkB (K : Fg) (k : Nat) : Bool := PySem.W.makesIn K (clsK K k) && (fi_ K (rC K k) "__init__" (some (.ref (mAd K k "__init__"))) && (PySem.W.isFn K (.ref (mAd K k "__init__")) && PySem.W.keepIn K (rC K k)))
def fn0 : List FD := [
  ⟨(fun K => He.ga K "is_integer"), "is_integer", "is_integer", top 20, false⟩,
  ⟨(fun K => He.ga K "in_bounds"), "in_bounds", "in_bounds", top 21, false⟩,
  ⟨(fun K => He.ga K "is_tuple"), "is_tuple", "is_tuple", top 22, false⟩,
  ⟨(fun K => He.ga K "is_letter"), "is_letter", "is_letter", top 23, false⟩,
  ⟨(fun K => He.ga K "is_rising"), "is_rising", "is_rising", top 24, false⟩,
  ⟨(fun K => He.ga K "frozen"), "frozen", "frozen", top 25, false⟩,
  ⟨(fun K => He.ga K "misplaced"), "misplaced", "misplaced", top 26, false⟩,
  ⟨(fun K => He.ga K "is_text"), "is_text", "is_text", top 27, false⟩,
  ⟨(fun K => He.ga K "are_words"), "are_words", "are_words", top 28, false⟩,
  ⟨(fun K => He.ga K "check_words"), "check_words", "check_words", top 29, false⟩,
  ⟨(fun K => He.ga K "check_number"), "check_number", "check_number", top 36, false⟩,
  ⟨(fun K => He.ga K "is_standing"), "is_standing", "is_standing", top 40, false⟩,
  ⟨(fun K => He.ga K "is_rest"), "is_rest", "is_rest", top 41, false⟩,
  ⟨(fun K => He.ga K "wrong_standing"), "wrong_standing", "wrong_standing", top 42, false⟩,
  ⟨(fun K => He.ga K "is_kind"), "is_kind", "is_kind", top 50, false⟩,
  ⟨(fun K => He.ga K "check_kinds"), "check_kinds", "check_kinds", top 51, false⟩,
  ⟨(fun K => He.ga K "is_seat"), "is_seat", "is_seat", top 52, false⟩,
  ⟨(fun K => He.ga K "check_seats"), "check_seats", "check_seats", top 53, false⟩,
  ⟨(fun K => He.ga K "_law_draw"), "_law_draw", "_law_draw", top 56, false⟩,
  ⟨(fun K => He.ga K "_law_mix"), "_law_mix", "_law_mix", top 57, false⟩]
def fn1 : List FD := [
  ⟨(fun K => He.ga K "_law_pick"), "_law_pick", "_law_pick", top 58, false⟩,
  ⟨(fun K => He.ga K "_law_is_int"), "_law_is_int", "_law_is_int", top 59, false⟩,
  ⟨(fun K => He.ga K "_law_words"), "_law_words", "_law_words", top 60, false⟩,
  ⟨(fun K => He.ga K "_law_names"), "_law_names", "_law_names", top 61, false⟩,
  ⟨(fun K => He.ga K "_law_drill"), "_law_drill", "_law_drill", top 62, false⟩,
  ⟨(fun K => He.ga K "_law_even_drill"), "_law_even_drill", "_law_even_drill", top 63, false⟩,
  ⟨(fun K => He.ga K "_law_make"), "_law_make", "_law_make", top 64, false⟩,
  ⟨(fun K => He.ga K "_law_kind"), "_law_kind", "_law_kind", top 65, false⟩,
  ⟨(fun K => He.ga K "_law_seat"), "_law_seat", "_law_seat", top 66, false⟩,
  ⟨(fun K => He.ga K "_law_all_names"), "_law_all_names", "_law_all_names", top 67, false⟩,
  ⟨(fun K => He.ga K "_law_text"), "_law_text", "_law_text", top 68, false⟩,
  ⟨(fun K => He.ga K "_law_column"), "_law_column", "_law_column", top 69, false⟩,
  ⟨(fun K => He.ga K "_law_refusal"), "_law_refusal", "_law_refusal", top 70, false⟩,
  ⟨(fun K => He.ga K "_law_made"), "_law_made", "_law_made", top 71, false⟩,
  ⟨(fun K => He.ga K "_law_asked"), "_law_asked", "_law_asked", top 72, false⟩,
  ⟨(fun K => He.ga K "_law_strings"), "_law_strings", "_law_strings", top 73, false⟩,
  ⟨(fun K => He.ga K "_law_great"), "_law_great", "_law_great", top 74, false⟩,
  ⟨(fun K => He.ga K "_law_measures"), "_law_measures", "_law_measures", top 75, false⟩,
  ⟨(fun K => He.ga K "_law_column_true"), "_law_column_true", "_law_column_true", top 76, false⟩,
  ⟨(fun K => He.ga K "_law_numbers_true"), "_law_numbers_true", "_law_numbers_true", top 77, false⟩]
def fn2 : List FD := [
  ⟨(fun K => He.ga K "_law_longer"), "_law_longer", "_law_longer", top 78, false⟩,
  ⟨(fun K => He.ga K "_law_alike_true"), "_law_alike_true", "_law_alike_true", top 79, false⟩,
  ⟨(fun K => He.ga K "_law_bad_numbers"), "_law_bad_numbers", "_law_bad_numbers", top 80, false⟩,
  ⟨(fun K => He.ga K "_law_bad_word"), "_law_bad_word", "_law_bad_word", top 81, false⟩,
  ⟨(fun K => He.ga K "_law_bad_words"), "_law_bad_words", "_law_bad_words", top 82, false⟩,
  ⟨(fun K => He.ga K "law"), "law", "law", top 83, false⟩,
  ⟨(fun K => mAd K 26 "__init__"), "__init__", "Make.__init__", inClass (top 54) 0, true⟩,
  ⟨(fun K => mAd K 26 "__eq__"), "__eq__", "Make.__eq__", inClass (top 54) 5, false⟩,
  ⟨(fun K => prG K 26 "all_names"), "all_names", "Make.all_names", inClass (top 54) 6, false⟩,
  ⟨(fun K => mAd K 26 "lag_of"), "lag_of", "Make.lag_of", inClass (top 54) 7, false⟩,
  ⟨(fun K => mAd K 26 "seat_of"), "seat_of", "Make.seat_of", inClass (top 54) 8, false⟩,
  ⟨(fun K => mAd K 26 "body_of"), "body_of", "Make.body_of", inClass (top 54) 9, false⟩,
  ⟨(fun K => mAd K 26 "check_name"), "check_name", "Make.check_name", inClass (top 54) 11, false⟩,
  ⟨(fun K => mAd K 27 "__init__"), "__init__", "Column.__init__", inClass (top 33) 0, false⟩,
  ⟨(fun K => mAd K 27 "__eq__"), "__eq__", "Column.__eq__", inClass (top 33) 4, false⟩,
  ⟨(fun K => prG K 27 "delay_row"), "delay_row", "Column.delay_row", inClass (top 33) 6, false⟩,
  ⟨(fun K => prG K 27 "front_row"), "front_row", "Column.front_row", inClass (top 33) 7, false⟩,
  ⟨(fun K => prG K 27 "rest_length"), "rest_length", "Column.rest_length", inClass (top 33) 8, false⟩,
  ⟨(fun K => prG K 27 "pairs"), "pairs", "Column.pairs", inClass (top 33) 9, false⟩,
  ⟨(fun K => mAd K 30 "__init__"), "__init__", "File.__init__", inClass (top 37) 0, false⟩]
def fn3 : List FD := [
  ⟨(fun K => mAd K 30 "__eq__"), "__eq__", "File.__eq__", inClass (top 37) 1, false⟩,
  ⟨(fun K => mAd K 30 "column_of"), "column_of", "File.column_of", inClass (top 37) 2, false⟩,
  ⟨(fun K => mAd K 30 "delay_of"), "delay_of", "File.delay_of", inClass (top 37) 3, false⟩,
  ⟨(fun K => mAd K 30 "length_of"), "length_of", "File.length_of", inClass (top 37) 4, false⟩,
  ⟨(fun K => mAd K 30 "delay_of_part"), "delay_of_part", "File.delay_of_part", inClass (top 37) 5, false⟩,
  ⟨(fun K => mAd K 30 "length_of_part"), "length_of_part", "File.length_of_part", inClass (top 37) 6, false⟩,
  ⟨(fun K => mAd K 2 "__init__"), "__init__", "BadWords.__init__", inClass (top 3) 0, false⟩,
  ⟨(fun K => mAd K 6 "__init__"), "__init__", "BadKind.__init__", inClass (top 5) 0, false⟩,
  ⟨(fun K => mAd K 7 "__init__"), "__init__", "BadSpace.__init__", inClass (top 6) 0, false⟩,
  ⟨(fun K => mAd K 8 "__init__"), "__init__", "BadSeat.__init__", inClass (top 7) 0, false⟩,
  ⟨(fun K => mAd K 9 "__init__"), "__init__", "BadColumn.__init__", inClass (top 8) 0, false⟩,
  ⟨(fun K => mAd K 10 "__init__"), "__init__", "BadNumber.__init__", inClass (top 11) 0, false⟩,
  ⟨(fun K => mAd K 11 "__init__"), "__init__", "Twice.__init__", inClass (top 12) 0, false⟩,
  ⟨(fun K => mAd K 12 "__init__"), "__init__", "Unknown.__init__", inClass (top 13) 0, false⟩,
  ⟨(fun K => mAd K 17 "__init__"), "__init__", "BadFile.__init__", inClass (top 10) 0, false⟩]
def fnP0 : List FD := fn0 ++ fn1 ++ fn2 ++ fn3
def fnK : List FD := fnP0
def gl0 : List Str := ["is_integer", "in_bounds", "is_tuple", "is_letter", "is_rising", "frozen", "misplaced", "is_text", "are_words", "check_words", "check_number", "is_standing", "is_rest", "wrong_standing", "is_kind", "check_kinds", "is_seat", "check_seats", "_law_draw", "_law_mix", "_law_pick", "_law_is_int", "_law_words", "_law_names", "_law_drill", "_law_even_drill", "_law_make", "_law_kind", "_law_seat", "_law_all_names"]
def gl1 : List Str := ["_law_text", "_law_column", "_law_refusal", "_law_made", "_law_asked", "_law_strings", "_law_great", "_law_measures", "_law_column_true", "_law_numbers_true", "_law_longer", "_law_alike_true", "_law_bad_numbers", "_law_bad_word", "_law_bad_words", "law", "TailError", "BadWords", "BadKind", "BadSpace", "BadSeat", "BadColumn", "BadNumber", "Twice", "Unknown", "BadFile", "Drill", "Make", "Column", "File"]
def hErrs : List Nat := [17, 10, 9]
def exF0 : List (Fg → Bool) := [
  fun K => bltH.all fun x => He.eqO (PySem.W.nsIn K mainGlobals x) (some none),
  fun K => He.eqO (PySem.W.nsIn K mainGlobals "iter") (some none),
  fun K => gl0.all fun x => (He.Fa.glo x).ok K,
  fun K => gl1.all fun x => (He.Fa.glo x).ok K,
  (He.Fa.int "MOST_NAMES" 20).ok,
  (He.Fa.int "MOST_GROUPS" 60).ok,
  (He.Fa.int "MOST_STANDINGS" 6).ok,
  (He.Fa.int "MOST_KINDS" 4).ok,
  (He.Fa.int "MOST_LAG" 3).ok,
  (He.Fa.int "MOST_SPACE" 20).ok,
  (He.Fa.int "MOST_SEAT" 40).ok,
  (He.Fa.str "SMALL" "abcdefghijklmnopqrstuvwxyz").ok,
  (He.Fa.str "CAPITALS" "ABCDEFGHIJKLMNOPQRSTUVWXYZ").ok,
  fun K => erB K 2 "words",
  fun K => erB K 6 "number",
  fun K => erB K 7 "space",
  fun K => erB K 8 "number",
  fun K => erB K 9 "number",
  fun K => erB K 10 "number",
  fun K => erB K 11 "name",
  fun K => erB K 12 "name",
  fun K => erB K 17 "word",
  fun K => hErrs.all fun i => hErrs.all fun j => decide (PySem.W.kitOne K (.ref (clsK K i)) (.ref (clsK K j)) = some (i == j)),
  fun K => clB K 25 ["words", "standings"],
  fun K => mkB K 25,
  fun K => rdB K 25 "REST",
  fun K => clB K 26 ["words", "kinds", "space", "seats", "_names", "_kind_of", "_paces"],
  fun K => inB_ K 26,
  fun K => mkB K 26,
  fun K => PySem.W.notFirst K (clsK K 26) (.ref (clsK K 26)),
  fun K => prB K 26 "all_names",
  fun K => meB K 26 "__eq__",
  fun K => meB K 26 "lag_of",
  fun K => meB K 26 "seat_of",
  fun K => meB K 26 "body_of",
  fun K => meB K 26 "check_name",
  fun K => clB K 27 ["make", "groups"],
  fun K => inB_ K 27,
  fun K => mkB K 27,
  fun K => PySem.W.notFirst K (clsK K 27) (.ref (clsK K 27)),
  fun K => prB K 27 "delay_row",
  fun K => prB K 27 "front_row",
  fun K => prB K 27 "rest_length",
  fun K => prB K 27 "pairs",
  fun K => meB K 27 "__eq__",
  fun K => clB K 30 ["make", "head", "part", "tail"],
  fun K => inB_ K 30,
  fun K => mkB K 30,
  fun K => PySem.W.notFirst K (clsK K 30) (.ref (clsK K 30)),
  fun K => PySem.W.notFirst K (clsK K 30) (.type "int"),
  fun K => PySem.W.notFirst K (clsK K 30) (.type "NoneType"),
  fun K => PySem.W.notFirst K (clsK K 30) (.type "str"),
  fun K => PySem.W.notFirst K (clsK K 30) (.type "tuple"),
  fun K => meB K 30 "__eq__",
  fun K => meB K 30 "column_of",
  fun K => meB K 30 "delay_of",
  fun K => meB K 30 "length_of",
  fun K => meB K 30 "delay_of_part",
  fun K => meB K 30 "length_of_part",
  fun K => dfB K (mAd K 26 "__init__")]
def exK0 (K : Fg) : Bool := exF0.all fun t => t K
def exK : Fg → Bool :=  exK0
end
section
set_option maxHeartbeats 0
open PySem PySem.Spec PyProof.Rows L2
def nm0 : List Str := ["_wall", "__name__", "TailError", "BadWords", "BadStanding", "BadKind", "BadSpace", "BadSeat", "BadColumn", "BadCalling", "BadFile", "BadNumber", "Twice", "Unknown", "Unlike", "NoStanding", "SMALL", "CAPITALS", "MOST_BEATS", "is_integer", "in_bounds", "is_tuple", "is_letter", "is_rising", "frozen", "misplaced", "is_text", "are_words", "check_words", "check_calling"]
def nm1 : List Str := ["MOST_GROUPS", "Column", "MOST_NAMES", "check_number", "File", "MOST_STANDINGS", "is_standing", "is_rest", "wrong_standing", "led", "Drill", "MOST_KINDS", "MOST_LAG", "MOST_SPACE", "MOST_SEAT", "is_kind", "check_kinds", "is_seat", "check_seats", "Make", "_law_draw", "_law_mix", "_law_pick", "_law_is_int", "_law_words", "_law_names", "_law_drill", "_law_even_drill", "_law_make", "_law_kind"]
def nm2 : List Str := ["_law_seat", "_law_all_names", "_law_text", "_law_column", "_law_refusal", "_law_made", "_law_asked", "_law_strings", "_law_great", "_law_measures", "_law_column_true", "_law_numbers_true", "_law_longer", "_law_alike_true", "_law_bad_numbers", "_law_bad_word", "_law_bad_words"]
abbrev nms : List Str := nm0 ++ nm1 ++ nm2
abbrev RR : PySem.W.OpenRow := PySem.W.OpenLaw.row PySem.Challenge.rw_tailheard_k28_files_told
abbrev VW := PySem.W.view RR.prog [83]
theorem run0 (w : World) : HandSHeadRun.RunEq RR VW (hookK 5 exK0 fnP0) (obG 5 exK0 fnP0) 9000 nms w := by
  intro os
  kernel_rfl
abbrev hkR : PySem.W.Hook := hookK 5 exK fnK
abbrev obR (s : PySem.W.SharedT) : AlK := obG 5 exK fnK s
theorem obR_eq (s : PySem.W.SharedT) : obR s = hkR.obs s.abs := obsKG_eq (HandSHeadRun.getT_eq s)
theorem runR (w : World) : HandSHeadRun.RunEq RR VW hkR obR 9000 nms w := run0 w
end
end K28
section
set_option maxHeartbeats 4000000
/-! Vl: a logic of plain values over the hand layer: what an expression or a block of the text gives, told of data without a heap. -/
namespace Vl
open PySem PySem.Spec PyProof.Rows L2
/-! ### data -/
inductive D where
  | non | bl (b : Bool) | int (i : Int) | str (x : Str) | ty (n : String) | cl (k : Nat)
  | lst (xs : List D) | tup (xs : List D)
  | obj (c : Nat) (fs : List (Str × D))
  | own (k : Nat)
  | dic (ks : List L2.Key) (xs : List D)
  | dit (ks : List (List L2.Key)) (xs : List D)
  | adr (a : Addr)
  deriving Inhabited
/-- the law's draw list at dr: its cells at cl -/
def DrawAt (dr cl : Addr) (ns : List Int) (H : Hp) : Prop := ∃ i1 i2 i3 i4 i5 : Int, 0 ≤ i1 ∧ H cl = some (.lst (ns.map V.int)) ∧ H dr = some (.lst [.ref cl, .int i1, .int i2, .int i3, .int i4, .int i5])
/-- what the run has made besides data: base its objects, mv those that everybody may change; dr the one that data may name: a draw list (kind 1), a list of whole numbers (kind 2), nothing (kind 0) -/
structure Wd (cls : Nat → Addr) where
  dr : Addr
  cl : Addr
  ns : List Int
  kind : Nat
  mv : Addr → Prop
  base : Addr → Prop
  ok : Hp → Prop
  mvb : ∀ a, mv a → base a
  some : ∀ H, ok H → ∀ a, base a → H a ≠ Option.none
  keep : ∀ H H', ok H → (∀ a, base a → H' a = H a) → ok H'
  dmv : kind = 1 → mv dr ∧ cl ≠ dr ∧ ns.length ≤ 63
  dok : kind = 1 → ∀ H, ok H → DrawAt dr cl ns H
  dset : kind = 1 → ∀ H H', ok H → (∀ a, a ≠ dr → base a → H' a = H a) → DrawAt dr cl ns H' → ok H'
  cok : kind = 2 → ∀ H, ok H → H dr = Option.some (.lst (ns.map V.int)) ∧ ns.length ≤ 63
/-- none of the region may be changed -/
def Wd.nd {cls : Nat → Addr} (W : Wd cls) (R : Addr → Prop) : Prop := ∀ a, W.mv a → ¬ R a
variable {cls : Nat → Addr}
mutual
inductive Dq (W : Wd cls) (R : Addr → Prop) (H : Hp) : V → D → Prop
  | non : Dq W R H .non .non
  | bl (b : Bool) : Dq W R H (.bl b) (.bl b)
  | int (i : Int) : Dq W R H (.int i) (.int i)
  | str (x : Str) : Dq W R H (.str x) (.str x)
  | ty (n : String) : Dq W R H (.ty n) (.ty n)
  | cl (k : Nat) : Dq W R H (.ref (cls k)) (.cl k)
  | lst {a : Addr} {vs : List V} {ds : List D} : R a → H a = some (.lst vs) → DqL W R H vs ds → Dq W R H (.ref a) (.lst ds)
  | tup {a : Addr} {vs : List V} {ds : List D} : R a → H a = some (.tup vs) → DqL W R H vs ds → Dq W R H (.ref a) (.tup ds)
  | obj {a dx : Addr} {c : Nat} {fs : List (Str × V)} {gs : List (Str × D)} : R a → H a = some (.ins (cls c) dx fs) → DqF W R H fs gs → Dq W R H (.ref a) (.obj c gs)
  | own {k : Nat} : W.kind = k → Dq W R H (.ref W.dr) (.own k)
  | dic {a : Addr} {ks : List L2.Key} {vs : List V} {ds : List D} : R a → H a = some (.dK (ks.zip vs)) → ks.length = vs.length → DqL W R H vs ds → Dq W R H (.ref a) (.dic ks ds)
  | dit {a : Addr} {ks : List (List L2.Key)} {vs : List V} {ds : List D} : R a → H a = some (.dT (ks.zip vs)) → ks.length = vs.length → DqL W R H vs ds → Dq W R H (.ref a) (.dit ks ds)
  | adr {a : Addr} : Dq W R H (.ref a) (.adr a)
inductive DqL (W : Wd cls) (R : Addr → Prop) (H : Hp) : List V → List D → Prop
  | nil : DqL W R H [] []
  | cons {v : V} {d : D} {vs : List V} {ds : List D} : Dq W R H v d → DqL W R H vs ds → DqL W R H (v :: vs) (d :: ds)
inductive DqF (W : Wd cls) (R : Addr → Prop) (H : Hp) : List (Str × V) → List (Str × D) → Prop
  | nil : DqF W R H [] []
  | cons {f : Str} {v : V} {d : D} {fs : List (Str × V)} {gs : List (Str × D)} : Dq W R H v d → DqF W R H fs gs → DqF W R H ((f, v) :: fs) ((f, d) :: gs)
end
section
variable {W : Wd cls} {R R' : Addr → Prop} {H H' H'' : Hp}
/-- all but the one list is as it was -/
def Gr (W : Wd cls) (H H' : Hp) : Prop := ∀ a o, ¬ W.mv a → H a = some o → H' a = some o
/-- of the region, or new -/
def Nw (R : Addr → Prop) (H : Hp) : Addr → Prop := fun a => R a ∨ H a = Option.none
theorem Gr.refl : Gr W H H := fun _ _ _ h => h
theorem Gr.trans (a : Gr W H H') (b : Gr W H' H'') : Gr W H H'' := fun x o n h => b x o n (a x o n h)
theorem Gr.of_same (h : Same H H') : Gr W H H' := fun a o _ e => h a o e
theorem ok_same (ok : W.ok H) (h : Same H H') : W.ok H' := W.keep H H' ok fun a b => by
  cases e : H a with
  | none => exact absurd e (W.some H ok a b)
  | some o => exact h a o e
mutual
theorem Dq.mono2 (h : ∀ a o, R a → H a = some o → R' a ∧ H' a = some o) : ∀ {v : V} {d : D}, Dq W R H v d → Dq W R' H' v d
  | _, _, .non => .non
  | _, _, .bl b => .bl b
  | _, _, .int i => .int i
  | _, _, .str x => .str x
  | _, _, .ty n => .ty n
  | _, _, .cl n => .cl n
  | _, _, .lst r e q => .lst (h _ _ r e).1 (h _ _ r e).2 (DqL.mono2 h q)
  | _, _, .tup r e q => .tup (h _ _ r e).1 (h _ _ r e).2 (DqL.mono2 h q)
  | _, _, .obj r e q => .obj (h _ _ r e).1 (h _ _ r e).2 (DqF.mono2 h q)
  | _, _, .own e => .own e
  | _, _, .dic r e l q => .dic (h _ _ r e).1 (h _ _ r e).2 l (DqL.mono2 h q)
  | _, _, .dit r e l q => .dit (h _ _ r e).1 (h _ _ r e).2 l (DqL.mono2 h q)
  | _, _, .adr => .adr
theorem DqL.mono2 (h : ∀ a o, R a → H a = some o → R' a ∧ H' a = some o) : ∀ {vs : List V} {ds : List D}, DqL W R H vs ds → DqL W R' H' vs ds
  | _, _, .nil => .nil
  | _, _, .cons q r => .cons (Dq.mono2 h q) (DqL.mono2 h r)
theorem DqF.mono2 (h : ∀ a o, R a → H a = some o → R' a ∧ H' a = some o) : ∀ {fs : List (Str × V)} {gs : List (Str × D)}, DqF W R H fs gs → DqF W R' H' fs gs
  | _, _, .nil => .nil
  | _, _, .cons q r => .cons (Dq.mono2 h q) (DqF.mono2 h r)
end
theorem Dq.mono (hR : ∀ a, R a → R' a) (hH : ∀ a o, R a → H a = some o → H' a = some o) {v : V} {d : D} (q : Dq W R H v d) : Dq W R' H' v d := q.mono2 fun a o r e => ⟨hR a r, hH a o r e⟩
theorem DqL.mono (hR : ∀ a, R a → R' a) (hH : ∀ a o, R a → H a = some o → H' a = some o) {v : List V} {d : List D} (q : DqL W R H v d) : DqL W R' H' v d := q.mono2 fun a o r e => ⟨hR a r, hH a o r e⟩
theorem DqF.mono (hR : ∀ a, R a → R' a) (hH : ∀ a o, R a → H a = some o → H' a = some o) {v : List (Str × V)} {d : List (Str × D)} (q : DqF W R H v d) : DqF W R' H' v d := q.mono2 fun a o r e => ⟨hR a r, hH a o r e⟩
/-- what stands of the region -/
def Al (R : Addr → Prop) (H : Hp) : Addr → Prop := fun a => R a ∧ H a ≠ Option.none
theorem al_of : ∀ a o, R a → H a = some o → Al R H a ∧ H a = some o := fun a o r e => ⟨⟨r, fun z => by rw [e] at z; cases z⟩, e⟩
theorem Dq.alive {v : V} {d : D} (q : Dq W R H v d) : Dq W (Al R H) H v d := q.mono2 al_of
theorem DqL.alive {v : List V} {d : List D} (q : DqL W R H v d) : DqL W (Al R H) H v d := q.mono2 al_of
theorem DqF.alive {v : List (Str × V)} {d : List (Str × D)} (q : DqF W R H v d) : DqF W (Al R H) H v d := q.mono2 al_of
theorem hH_of (hd : W.nd R) (g : Gr W H H') : ∀ a o, R a → H a = some o → H' a = some o := fun a o r e => g a o (fun z => hd a z r) e
theorem Dq.grow (hd : W.nd R) (g : Gr W H H') {v : V} {d : D} (q : Dq W R H v d) : Dq W (Nw R H) H' v d := q.mono (fun _ r => .inl r) (hH_of hd g)
theorem DqL.grow (hd : W.nd R) (g : Gr W H H') {v : List V} {d : List D} (q : DqL W R H v d) : DqL W (Nw R H) H' v d := q.mono (fun _ r => .inl r) (hH_of hd g)
theorem DqF.grow (hd : W.nd R) (g : Gr W H H') {v : List (Str × V)} {d : List (Str × D)} (q : DqF W R H v d) : DqF W (Nw R H) H' v d := q.mono (fun _ r => .inl r) (hH_of hd g)
theorem Dq.wide {v : V} {d : D} (h : ∀ a, R a → R' a) (q : Dq W R H v d) : Dq W R' H v d := q.mono h fun _ _ _ e => e
theorem DqL.wide {v : List V} {d : List D} (h : ∀ a, R a → R' a) (q : DqL W R H v d) : DqL W R' H v d := q.mono h fun _ _ _ e => e
theorem DqF.wide {v : List (Str × V)} {d : List (Str × D)} (h : ∀ a, R a → R' a) (q : DqF W R H v d) : DqF W R' H v d := q.mono h fun _ _ _ e => e
theorem nw_dr (ok : W.ok H) (hd : W.nd R) : W.nd (Nw R H) := fun a m z => z.elim (hd a m) (W.some H ok _ (W.mvb _ m))
/-- new since later is new -/
theorem none_back (ok' : W.ok H') (g : Gr W H H') {a : Addr} (h : H' a = Option.none) : H a = Option.none := by
  cases e : H a with
  | none => rfl
  | some o =>
    have n : ¬ W.mv a := fun z => W.some H' ok' _ (W.mvb _ z) h
    rw [g a o n e] at h
    cases h
theorem nw_nw (ok' : W.ok H') (g : Gr W H H') : ∀ a, Nw (Nw R H) H' a → Nw R H a := fun a z => z.elim id fun z => .inr (none_back ok' g z)
theorem DqL.length : ∀ {vs : List V} {ds : List D}, DqL W R H vs ds → vs.length = ds.length
  | _, _, .nil => rfl
  | _, _, .cons _ r => by rw [List.length_cons, List.length_cons, r.length]
theorem DqL.get : ∀ {vs : List V} {ds : List D} {i : Nat} {d : D}, DqL W R H vs ds → ds[i]? = some d → ∃ v, vs[i]? = some v ∧ Dq W R H v d
  | _, _, _, _, .nil, e => by simp at e
  | _, _, 0, _, .cons q _, e => by simp at e; subst e; exact ⟨_, rfl, q⟩
  | _, _, i + 1, _, .cons _ r, e => by
    obtain ⟨v, h1, h2⟩ := r.get (i := i) (by simpa using e)
    exact ⟨v, by simpa using h1, h2⟩
theorem DqL.get' : ∀ {vs : List V} {ds : List D} {i : Nat} {v : V}, DqL W R H vs ds → vs[i]? = some v → ∃ d, ds[i]? = some d ∧ Dq W R H v d
  | _, _, _, _, .nil, e => by simp at e
  | _, _, 0, _, .cons q _, e => by simp at e; subst e; exact ⟨_, rfl, q⟩
  | _, _, i + 1, _, .cons _ r, e => by
    obtain ⟨v, h1, h2⟩ := r.get' (i := i) (by simpa using e)
    exact ⟨v, by simpa using h1, h2⟩
theorem DqL.append : ∀ {vs ws : List V} {ds es : List D}, DqL W R H vs ds → DqL W R H ws es → DqL W R H (vs ++ ws) (ds ++ es)
  | _, _, _, _, .nil, s => s
  | _, _, _, _, .cons q r, s => .cons q (r.append s)
theorem DqL.set {v : V} {d : D} (q : Dq W R H v d) : ∀ {vs : List V} {ds : List D} (i : Nat), DqL W R H vs ds → DqL W R H (vs.set i v) (ds.set i d)
  | _, _, _, .nil => .nil
  | _, _, 0, .cons _ r => .cons q r
  | _, _, i + 1, .cons p r => .cons p (DqL.set q i r)
theorem DqL.eraseIdx : ∀ {vs : List V} {ds : List D} (i : Nat), DqL W R H vs ds → DqL W R H (vs.eraseIdx i) (ds.eraseIdx i)
  | _, _, _, .nil => .nil
  | _, _, 0, .cons _ r => r
  | _, _, i + 1, .cons p r => .cons p (DqL.eraseIdx i r)
theorem DqL.take : ∀ {vs : List V} {ds : List D} (i : Nat), DqL W R H vs ds → DqL W R H (vs.take i) (ds.take i)
  | _, _, 0, _ => .nil
  | _, _, _ + 1, .nil => .nil
  | _, _, i + 1, .cons p r => .cons p (DqL.take i r)
theorem DqL.drop : ∀ {vs : List V} {ds : List D} (i : Nat), DqL W R H vs ds → DqL W R H (vs.drop i) (ds.drop i)
  | _, _, 0, r => r
  | _, _, _ + 1, .nil => .nil
  | _, _, i + 1, .cons p r => DqL.drop i r
theorem DqF.lookup {f : Str} {d : D} : ∀ {fs : List (Str × V)} {gs : List (Str × D)}, DqF W R H fs gs → gs.lookup f = some d → ∃ v, fs.lookup f = some v ∧ Dq W R H v d
  | _, _, .nil, e => by simp at e
  | _, _, .cons (f := g) q r, e => by
    by_cases h : f == g
    · simp only [List.lookup, h] at e ⊢
      cases e
      exact ⟨_, rfl, q⟩
    · simp only [List.lookup, h] at e ⊢
      exact r.lookup e
theorem DqF.lookup_none {f : Str} : ∀ {fs : List (Str × V)} {gs : List (Str × D)}, DqF W R H fs gs → gs.lookup f = none → fs.lookup f = none
  | _, _, .nil, e => rfl
  | _, _, .cons (f := g) q r, e => by
    by_cases h : f == g
    · simp only [List.lookup, h] at e
      cases e
    · simp only [List.lookup, h] at e ⊢
      exact r.lookup_none e
end
/-! ### slots -/
/-- an exception: its class, its fields -/
structure Xd where
  c : Nat
  fs : List (Str × D)
/-- an own dict: its keys, its values -/
inductive Dd where
  | k (ks : List L2.Key) (ds : List D)
  | t (ks : List (List L2.Key)) (ds : List D)
inductive Sv where
  | val (d : D)
  | lst (ds : List D)
  | ob (a : Addr) (c : Nat) (fs : List (Str × D))
  | exc (e : Addr × Addr × Xd)
  | dc (q : Dd)
abbrev Rho := List (Option Sv)
/-- where one stands: the context, the world, the region and the heap at the entry -/
structure Cy (cls : Nat → Addr) where
  X : Cx
  W : Wd cls
  R0 : Addr → Prop
  H0 : Hp
def ExcAt (W : Wd cls) (R : Addr → Prop) (H : Hp) (c : Value) (d : Option Addr) (x : Xd) : Prop :=
  c = .ref (cls x.c) ∧ ∃ dd fs, d = some dd ∧ H dd = some (.xd fs) ∧ R dd ∧ DqF W R H fs x.fs
/-- the exception that is handled: where it is, where its fields are -/
def Xq (W : Wd cls) (R : Addr → Prop) (H : Hp) (v : V) (e : Addr × Addr × Xd) : Prop := v = .ref e.1 ∧ ∃ fs, R e.2.1 ∧ H e.2.1 = some (.xd fs) ∧ DqF W R H fs e.2.2.fs
section
variable {W : Wd cls} {R R' : Addr → Prop} {H H' : Hp} {v : V} {e : Addr × Addr × Xd}
theorem Xq.mono2 (h : ∀ a o, R a → H a = some o → R' a ∧ H' a = some o) (q : Xq W R H v e) : Xq W R' H' v e := by
  obtain ⟨h1, fs, h2, h3, h4⟩ := q
  exact ⟨h1, fs, (h _ _ h2 h3).1, (h _ _ h2 h3).2, h4.mono2 h⟩
theorem Xq.mono (hR : ∀ a, R a → R' a) (hH : ∀ a o, R a → H a = some o → H' a = some o) (q : Xq W R H v e) : Xq W R' H' v e := q.mono2 fun a o r z => ⟨hR a r, hH a o r z⟩
theorem Xq.wide (h : ∀ a, R a → R' a) (q : Xq W R H v e) : Xq W R' H v e := q.mono h fun _ _ _ z => z
theorem Xq.alive (q : Xq W R H v e) : Xq W (Al R H) H v e := q.mono2 al_of
theorem Xq.grow (hd : W.nd R) (g : Gr W H H') (q : Xq W R H v e) : Xq W (Nw R H) H' v e := q.mono (fun _ r => .inl r) (hH_of hd g)
end
def DdAt (W : Wd cls) (R : Addr → Prop) (H : Hp) (o : HO) : Dd → Prop
  | .k ks ds => ∃ vs, o = .dK (ks.zip vs) ∧ ks.length = vs.length ∧ DqL W R H vs ds
  | .t ks ds => ∃ vs, o = .dT (ks.zip vs) ∧ ks.length = vs.length ∧ DqL W R H vs ds
section
variable {W : Wd cls} {R R' : Addr → Prop} {H H' : Hp} {o : HO} {q : Dd}
theorem DdAt.mono2 (h : ∀ a o, R a → H a = some o → R' a ∧ H' a = some o) (d : DdAt W R H o q) : DdAt W R' H' o q := by
  cases q with
  | k ks ds => obtain ⟨vs, e, l, q⟩ := d; exact ⟨vs, e, l, q.mono2 h⟩
  | t ks ds => obtain ⟨vs, e, l, q⟩ := d; exact ⟨vs, e, l, q.mono2 h⟩
theorem DdAt.mono (hR : ∀ a, R a → R' a) (hH : ∀ a o, R a → H a = some o → H' a = some o) (d : DdAt W R H o q) : DdAt W R' H' o q := d.mono2 fun a o r z => ⟨hR a r, hH a o r z⟩
theorem DdAt.wide (h : ∀ a, R a → R' a) (d : DdAt W R H o q) : DdAt W R' H o q := d.mono h fun _ _ _ z => z
theorem DdAt.alive (d : DdAt W R H o q) : DdAt W (Al R H) H o q := d.mono2 al_of
theorem DdAt.grow (hd : W.nd R) (g : Gr W H H') (d : DdAt W R H o q) : DdAt W (Nw R H) H' o q := d.mono (fun _ r => .inl r) (hH_of hd g)
theorem DdAt.nl {vs : List V} (d : DdAt W R H (.lst vs) q) : False := by
  cases q with
  | k ks ds => obtain ⟨vs, e, l, q⟩ := d; cases e
  | t ks ds => obtain ⟨vs, e, l, q⟩ := d; cases e
theorem DdAt.ni {k : Addr} {dx : Addr} {vs : List (Str × V)} (d : DdAt W R H (.ins k dx vs) q) : False := by
  cases q with
  | k ks ds => obtain ⟨vs, e, l, q⟩ := d; cases e
  | t ks ds => obtain ⟨vs, e, l, q⟩ := d; cases e
end
/-- the slot i is written: other slots than it -/
theorem slot_set {ρ : Rho} {i j : Nat} {w : Option Sv} {y : Sv} (hw : w ≠ some y) (h : (ρ.set i w)[j]? = some (some y)) : i ≠ j ∧ ρ[j]? = some (some y) := by
  by_cases hj : i = j
  · subst hj
    by_cases hi : i < ρ.length
    · rw [List.getElem?_set_self hi] at h; exact absurd (Option.some.inj h) hw
    · rw [List.getElem?_eq_none (by simpa using hi)] at h; cases h
  · rw [List.getElem?_set_ne hj] at h
    exact ⟨hj, h⟩
structure Sl (c : Cy cls) (R : Addr → Prop) (H : Hp) (σ : L2.St) (ρ : Rho) : Prop where
  ndr : c.W.nd R
  ok : c.W.ok H
  ok0 : ∀ a, c.W.base a → c.H0 a ≠ none
  gr : Gr c.W c.H0 H
  sub : ∀ a, R a → Nw c.R0 c.H0 a
  len : σ.length = ρ.length
  val : ∀ (i : Nat) d, ρ[i]? = some (some (.val d)) → ∃ v, σ[i]? = some (some v) ∧ Dq c.W R H v d
  lst : ∀ (i : Nat) ds, ρ[i]? = some (some (.lst ds)) → ∃ a vs, σ[i]? = some (some (.ref a)) ∧ ¬ R a ∧ c.H0 a = none ∧ H a = some (.lst vs) ∧ DqL c.W R H vs ds
  sep : ∀ (i j : Nat) ds es a, i ≠ j → ρ[i]? = some (some (.lst ds)) → ρ[j]? = some (some (.lst es)) → σ[i]? = some (some (.ref a)) → σ[j]? ≠ some (some (.ref a))
  ob : ∀ (i : Nat) a k fs, ρ[i]? = some (some (.ob a k fs)) → ∃ dx vs, σ[i]? = some (some (.ref a)) ∧ ¬ R a ∧ c.H0 a = none ∧ H a = some (.ins (cls k) dx vs) ∧ DqF c.W R H vs fs
  exc : ∀ (i : Nat) e, ρ[i]? = some (some (.exc e)) → ∃ v, σ[i]? = some (some v) ∧ Xq c.W R H v e
  dc : ∀ (i : Nat) q, ρ[i]? = some (some (.dc q)) → ∃ a o, σ[i]? = some (some (.ref a)) ∧ ¬ R a ∧ c.H0 a = none ∧ H a = some o ∧ DdAt c.W R H o q
  sepd : ∀ (i j : Nat) q q' a, i ≠ j → ρ[i]? = some (some (.dc q)) → ρ[j]? = some (some (.dc q')) → σ[i]? = some (some (.ref a)) → σ[j]? ≠ some (some (.ref a))
section
variable {c : Cy cls} {R : Addr → Prop} {H H' : Hp} {σ : L2.St} {ρ : Rho}
theorem Sl.grow (S : Sl c R H σ ρ) (g : Gr c.W H H') (ok : c.W.ok H') : Sl c (Nw R H) H' σ ρ where
  ndr := nw_dr S.ok S.ndr
  ok := ok
  ok0 := S.ok0
  gr := S.gr.trans g
  sub := fun a z => z.elim (S.sub a) fun z => .inr (none_back S.ok S.gr z)
  len := S.len
  val := fun i d e => let ⟨v, h1, h2⟩ := S.val i d e; ⟨v, h1, h2.grow S.ndr g⟩
  exc := fun i d e => let ⟨v, h1, h2⟩ := S.exc i d e; ⟨v, h1, h2.grow S.ndr g⟩
  lst := fun i ds e => by
    obtain ⟨a, vs, h1, h2, h3, h4, h5⟩ := S.lst i ds e
    have nd : ¬ c.W.mv a := fun z => S.ok0 _ (c.W.mvb _ z) h3
    exact ⟨a, vs, h1, fun z => z.elim h2 (fun z => by rw [h4] at z; cases z), h3, g a _ nd h4, h5.grow S.ndr g⟩
  sep := S.sep
  ob := fun i a k fs e => by
    obtain ⟨dx, vs, h1, h2, h3, h4, h5⟩ := S.ob i a k fs e
    have nd : ¬ c.W.mv a := fun z => S.ok0 _ (c.W.mvb _ z) h3
    exact ⟨dx, vs, h1, fun z => z.elim h2 (fun z => by rw [h4] at z; cases z), h3, g a _ nd h4, h5.grow S.ndr g⟩
  dc := fun i q e => by
    obtain ⟨a, o, h1, h2, h3, h4, h5⟩ := S.dc i q e
    have nd : ¬ c.W.mv a := fun z => S.ok0 _ (c.W.mvb _ z) h3
    exact ⟨a, o, h1, fun z => z.elim h2 (fun z => by rw [h4] at z; cases z), h3, g a _ nd h4, h5.grow S.ndr g⟩
  sepd := S.sepd
theorem Sl.same (S : Sl c R H σ ρ) (h : Same H H') : Sl c (Nw R H) H' σ ρ := S.grow (Gr.of_same h) (ok_same S.ok h)
/-- the end of an expression -/
def Fin (c : Cy cls) (R : Addr → Prop) (H : Hp) (P : D → Prop) : VK := fun v H' => ∃ d, Gr c.W H H' ∧ c.W.ok H' ∧ Dq c.W (Nw R H) H' v d ∧ P d
def FinL (c : Cy cls) (R : Addr → Prop) (H : Hp) (P : List D → Prop) : List V → Hp → Prop := fun vs H' => ∃ ds, Gr c.W H H' ∧ c.W.ok H' ∧ DqL c.W (Nw R H) H' vs ds ∧ P ds
def FinT (c : Cy cls) (H : Hp) (P : Bool → Prop) : Bool → Hp → Prop := fun b H' => Gr c.W H H' ∧ c.W.ok H' ∧ P b
/-- what is wished of an exception from here on -/
def ExOk (c : Cy cls) (R : Addr → Prop) (H : Hp) (E : XK) (ex : Xd → Prop) : Prop := ∀ x k d H', Gr c.W H H' → c.W.ok H' → ExcAt c.W (Nw R H) H' k d x → ex x → E k d H'
theorem ExcAt.wide {W : Wd cls} {R R' : Addr → Prop} {k : Value} {d : Option Addr} {x : Xd} (h : ∀ a, R a → R' a) (q : ExcAt W R H k d x) : ExcAt W R' H k d x := by
  obtain ⟨h1, dd, fs, h2, h3, h4, h5⟩ := q
  exact ⟨h1, dd, fs, h2, h3, h _ h4, h5.wide h⟩
theorem ExOk.grow {E : XK} {ex : Xd → Prop} (x : ExOk c R H E ex) (g : Gr c.W H H') (ok : c.W.ok H') : ExOk c (Nw R H) H' E ex := fun y k d H2 g2 ok2 a h =>
  x y k d H2 (g.trans g2) ok2 (a.wide (nw_nw ok g)) h
theorem Fin.back {P : D → Prop} (g : Gr c.W H H') (ok : c.W.ok H') {v : V} {H2 : Hp} (f : Fin c (Nw R H) H' P v H2) : Fin c R H P v H2 :=
  let ⟨d, h1, h2, h3, h4⟩ := f; ⟨d, g.trans h1, h2, h3.wide (nw_nw ok g), h4⟩
abbrev Pas (X : Cx) (σ : L2.St) (E : XK) : Prop := PassesAt (L2N.CX X.prog X.w) X σ E
/-- e gives a datum with P; what is raised has ex -/
structure WE (c : Cy cls) (e : Expr) (ρ : Rho) (P : D → Prop) (ex : Xd → Prop) : Prop where
  run : ∀ (pins : List (Addr × Obj)) (s : Shared) (σ : L2.St) (H : Hp) (R : Addr → Prop) (E : XK), Inv c.X pins σ H s → Sl c R H σ ρ → Pas c.X σ E → ExOk c R H E ex →
    wpAny (model c.X.prog c.X.w) c.X.A (eval e c.X.env) (EP c.X pins σ (Fin c R H P)) c.X.xe s
structure WT (c : Cy cls) (e : Expr) (ρ : Rho) (P : Bool → Prop) (ex : Xd → Prop) : Prop where
  run : ∀ (pins : List (Addr × Obj)) (s : Shared) (σ : L2.St) (H : Hp) (R : Addr → Prop) (E : XK), Inv c.X pins σ H s → Sl c R H σ ρ → Pas c.X σ E → ExOk c R H E ex →
    wpAny (model c.X.prog c.X.w) c.X.A (isTrue e c.X.env (eval e c.X.env)) (TP c.X pins σ (FinT c H P)) c.X.xe s
/-- the reading of any expression -/
def tU (c : Cy cls) (e : Expr) : TE := fun σ H Q => ∃ (ρ : Rho) (R : Addr → Prop) (E : XK) (P : D → Prop) (ex : Xd → Prop), Sl c R H σ ρ ∧ Pas c.X σ E ∧ ExOk c R H E ex ∧ WE c e ρ P ex ∧ ∀ v H', Fin c R H P v H' → Q v H'
theorem peU (c : Cy cls) (e : Expr) : PE c.X e (tU c e) := ⟨fun pins s σ H Q I h => by
  obtain ⟨ρ, R, E, P, ex, S, p, x, w, k⟩ := h
  exact thn (w.run pins s σ H R E I S p x) fun u s' ⟨v, H', I', r, f⟩ => ⟨v, H', I', r, k v H' f⟩⟩
def tUT (c : Cy cls) (e : Expr) : TT := fun σ H Q => ∃ (ρ : Rho) (R : Addr → Prop) (E : XK) (P : Bool → Prop) (ex : Xd → Prop), Sl c R H σ ρ ∧ Pas c.X σ E ∧ ExOk c R H E ex ∧ WT c e ρ P ex ∧ ∀ v H', FinT c H P v H' → Q v H'
theorem ptU (c : Cy cls) (e : Expr) : PT c.X e (tUT c e) := ⟨fun pins s σ H Q I h => by
  obtain ⟨ρ, R, E, P, ex, S, p, x, w, k⟩ := h
  exact thn (w.run pins s σ H R E I S p x) fun u s' ⟨H', I', f⟩ => ⟨H', I', k _ H' f⟩⟩
theorem we_of {e : Expr} {te : TE} {P : D → Prop} {ex : Xd → Prop} (hp : PE c.X e te) (h : ∀ σ H R E, Sl c R H σ ρ → Pas c.X σ E → ExOk c R H E ex → te σ H (Fin c R H P)) : WE c e ρ P ex :=
  ⟨fun pins s σ H R E I S p x => hp.run pins s σ H _ I (h σ H R E S p x)⟩
theorem wt_of {e : Expr} {te : TT} {P : Bool → Prop} {ex : Xd → Prop} (hp : PT c.X e te) (h : ∀ σ H R E, Sl c R H σ ρ → Pas c.X σ E → ExOk c R H E ex → te σ H (FinT c H P)) : WT c e ρ P ex :=
  ⟨fun pins s σ H R E I S p x => hp.run pins s σ H _ I (h σ H R E S p x)⟩
theorem tU.mk {e : Expr} {E : XK} {P : D → Prop} {ex : Xd → Prop} {Q : VK} (w : WE c e ρ P ex) (S : Sl c R H σ ρ) (p : Pas c.X σ E) (x : ExOk c R H E ex) (k : ∀ v H', Fin c R H P v H' → Q v H') : tU c e σ H Q := ⟨ρ, R, E, P, ex, S, p, x, w, k⟩
theorem tUT.mk {e : Expr} {E : XK} {P : Bool → Prop} {ex : Xd → Prop} {Q : Bool → Hp → Prop} (w : WT c e ρ P ex) (S : Sl c R H σ ρ) (p : Pas c.X σ E) (x : ExOk c R H E ex) (k : ∀ v H', FinT c H P v H' → Q v H') : tUT c e σ H Q := ⟨ρ, R, E, P, ex, S, p, x, w, k⟩
theorem WE.mono {e : Expr} {P P' : D → Prop} {ex : Xd → Prop} (w : WE c e ρ P ex) (h : ∀ d, P d → P' d) : WE c e ρ P' ex := ⟨fun pins s σ H R E I S p x =>
  thn (w.run pins s σ H R E I S p x) fun u s' ⟨v, H', I', r, d, f1, f2, f3, f4⟩ => ⟨v, H', I', r, d, f1, f2, f3, h d f4⟩⟩
theorem WT.mono {e : Expr} {P P' : Bool → Prop} {ex : Xd → Prop} (w : WT c e ρ P ex) (h : ∀ d, P d → P' d) : WT c e ρ P' ex := ⟨fun pins s σ H R E I S p x =>
  thn (w.run pins s σ H R E I S p x) fun u s' ⟨H', I', f1, f2, f4⟩ => ⟨H', I', f1, f2, h _ f4⟩⟩
/-! ### names, constants -/
theorem we_val {i : Nat} {x : Str} {pos : Pos} {d : D} {P : D → Prop} {ex : Xd → Prop} (hN : c.X.N[i]? = some x) (hρ : ρ[i]? = some (some (.val d))) (h : P d) (hv : Vis c.X.env.scope x := by first | exact Or.inl rfl | exact Or.inr (Or.inl rfl) | exact Or.inr (Or.inr rfl))
    (hd : (x == ("__debug__" : Str)) = false := by decide) (hcd : (x == ("__classdict__" : Str)) = false := by decide) : WE c (.Name x pos) ρ P ex :=
  we_of (pe_var hN hv hd hcd) fun σ H R E S _ _ => by
    obtain ⟨v, h1, h2⟩ := S.val i d hρ
    exact ⟨v, h1, d, Gr.refl, S.ok, h2.grow S.ndr Gr.refl, h⟩
theorem we_c {e : Expr} {v : V} {d : D} {P : D → Prop} {ex : Xd → Prop} (hp : PE c.X e (tC v)) (hq : ∀ R H, Dq c.W R H v d) (h : P d) : WE c e ρ P ex :=
  we_of hp fun σ H R E S _ _ => ⟨d, Gr.refl, S.ok, hq _ _, h⟩
theorem we_int {i : Int} {j pos} {P : D → Prop} {ex : Xd → Prop} (h : P (.int i)) : WE c (.Constant (.int i) j pos) ρ P ex := we_c pe_int (fun _ _ => .int i) h
theorem we_bl {b : Bool} {j pos} {P : D → Prop} {ex : Xd → Prop} (h : P (.bl b)) : WE c (.Constant (.bool b) j pos) ρ P ex := we_c pe_bl (fun _ _ => .bl b) h
theorem we_non {j pos} {P : D → Prop} {ex : Xd → Prop} (h : P .non) : WE c (.Constant .none j pos) ρ P ex := we_c pe_non (fun _ _ => .non) h
theorem we_str {x : Str} {j pos} {P : D → Prop} {ex : Xd → Prop} (h : P (.str x)) : WE c (.Constant (.str x) j pos) ρ P ex := we_c pe_str (fun _ _ => .str x) h
/-! ### two operands -/
/-- the operation r on data: F tells what it wants and gives -/
def OpD (c : Cy cls) (r : R2) (F : D → D → (D → Prop) → Prop) : Prop := ∀ R H vx vy x y P, c.W.nd R → c.W.ok H → Dq c.W R H vx x → Dq c.W R H vy y → F x y P → ∀ Q : VK, (∀ v H', Fin c R H P v H' → Q v H') → r vx vy H Q
def UnD (c : Cy cls) (r : V → Hp → VK → Prop) (F : D → (D → Prop) → Prop) : Prop := ∀ R H vx x P, c.W.nd R → c.W.ok H → Dq c.W R H vx x → F x P → ∀ Q : VK, (∀ v H', Fin c R H P v H' → Q v H') → r vx H Q
def LsD (c : Cy cls) (r : List V → Hp → VK → Prop) (F : List D → (D → Prop) → Prop) : Prop := ∀ R H vs ds P, c.W.nd R → c.W.ok H → DqL c.W R H vs ds → F ds P → ∀ Q : VK, (∀ v H', Fin c R H P v H' → Q v H') → r vs H Q
theorem we_un {a e : Expr} {r : V → Hp → VK → Prop} {F : D → (D → Prop) → Prop} {P : D → Prop} {ex : Xd → Prop} (hp : PE c.X e (tUn r (tU c a))) (hF : UnD c r F) (h : WE c a ρ (fun x => F x P) ex) : WE c e ρ P ex :=
  we_of hp fun σ H R E S p x => tU.mk h S p x fun vx H1 ⟨dx, g1, ok1, q1, w1⟩ => hF _ _ _ _ _ (S.grow g1 ok1).ndr ok1 q1 w1 _ fun v H' f => f.back g1 ok1
theorem we_bin {a b e : Expr} {r : R2} {F : D → D → (D → Prop) → Prop} {P : D → Prop} {ex : Xd → Prop} (hp : PE c.X e (tOp r (tU c a) (tU c b))) (hF : OpD c r F) (h : WE c a ρ (fun x => WE c b ρ (fun y => F x y P) ex) ex) : WE c e ρ P ex :=
  we_of hp fun σ H R E S p x => tU.mk h S p x fun vx H1 ⟨dx, g1, ok1, q1, w1⟩ => tU.mk w1 (S.grow g1 ok1) p (x.grow g1 ok1) fun vy H2 ⟨dy, g2, ok2, q2, f2⟩ =>
    hF _ _ _ _ _ _ _ ((S.grow g1 ok1).grow g2 ok2).ndr ok2 (q1.grow (S.grow g1 ok1).ndr g2) q2 f2 _ fun v H' f => (f.back g2 ok2).back g1 ok1
/-- .. as a test -/
theorem wt_val {e : Expr} {P : Bool → Prop} {ex : Xd → Prop} (h : WE c e ρ (fun d => ∃ b, d = .bl b ∧ P b) ex) (hp : PT c.X e (tB (tU c e)) := by exact pt_val (peU _ _)) : WT c e ρ P ex :=
  wt_of hp fun σ H R E S p x => tU.mk h S p x fun v H1 ⟨d, g1, ok1, q1, b, e1, h1⟩ => by
    subst e1
    cases q1
    exact ⟨b, rfl, g1, ok1, h1⟩
theorem wt_bin {a b e : Expr} {r : R2} {F : D → D → (D → Prop) → Prop} {P : Bool → Prop} {ex : Xd → Prop} (hp : PT c.X e (tTest (tOp r (tU c a) (tU c b)))) (hF : OpD c r F) (h : WE c a ρ (fun x => WE c b ρ (fun y => F x y (fun d => ∃ b, d = .bl b ∧ P b)) ex) ex) : WT c e ρ P ex :=
  wt_of hp fun σ H R E S p x => tU.mk h S p x fun vx H1 ⟨dx, g1, ok1, q1, w1⟩ => tU.mk w1 (S.grow g1 ok1) p (x.grow g1 ok1) fun vy H2 ⟨dy, g2, ok2, q2, f2⟩ =>
    hF _ _ _ _ _ _ _ ((S.grow g1 ok1).grow g2 ok2).ndr ok2 (q1.grow (S.grow g1 ok1).ndr g2) q2 f2 _ fun v H' f => by
      obtain ⟨d, g3, ok3, q3, b, e1, h1⟩ := (f.back g2 ok2).back g1 ok1
      subst e1
      cases q3
      exact ⟨b, rfl, g3, ok3, h1⟩
/-- nothing is made -/
theorem Fin.here {P : D → Prop} {v : V} {d : D} (ok : c.W.ok H) (hd : c.W.nd R) (q : Dq c.W R H v d) (h : P d) : Fin c R H P v H := ⟨d, Gr.refl, ok, q.grow hd Gr.refl, h⟩
/-- a new object at p -/
theorem Fin.new {P : D → Prop} {v : V} {d : D} {p : Addr} {o : HO} (ok : c.W.ok H) (hp : H p = none) (q : Dq c.W (Nw R H) (upd H p o) v d) (h : P d) : Fin c R H P v (upd H p o) :=
  have s : Same H (upd H p o) := fun b o' e => by rw [upd_ne (ne_of_none e hp)]; exact e
  ⟨d, Gr.of_same s, ok_same ok s, q, h⟩
theorem same_upd {p : Addr} {o : HO} (hp : H p = none) : Same H (upd H p o) := fun b o' e => by rw [upd_ne (ne_of_none e hp)]; exact e
/-! ### numbers -/
theorem opd_I0 (g : Int → Int → V) (gd : Int → Int → D) (hg : ∀ R H i j, Dq c.W R H (g i j) (gd i j)) : OpD c (rI0 g) (fun x y P => ∃ i j, x = .int i ∧ y = .int j ∧ P (gd i j)) := fun R H vx vy x y P nd ok qx qy f Q k => by
  obtain ⟨i, j, rfl, rfl, h⟩ := f
  cases qx
  cases qy
  exact ⟨i, j, rfl, rfl, k _ _ (Fin.here ok nd (hg _ _ _ _) h)⟩
theorem opd_I (C : Int → Int → Prop) (g : Int → Int → V) (gd : Int → Int → D) (hg : ∀ R H i j, Dq c.W R H (g i j) (gd i j)) : OpD c (rI C g) (fun x y P => ∃ i j, x = .int i ∧ y = .int j ∧ C i j ∧ P (gd i j)) := fun R H vx vy x y P nd ok qx qy f Q k => by
  obtain ⟨i, j, rfl, rfl, hc, h⟩ := f
  cases qx
  cases qy
  exact ⟨i, j, rfl, rfl, hc, k _ _ (Fin.here ok nd (hg _ _ _ _) h)⟩
end
end Vl
end
section
set_option maxHeartbeats 4000000
namespace Vl
open PySem PySem.Spec PyProof.Rows L2
variable {cls : Nat → Addr}
/-- what the region has is kept -/
def Kp (R : Addr → Prop) (H : Hp) (R' : Addr → Prop) (H' : Hp) : Prop := ∀ a o, R a → H a = some o → R' a ∧ H' a = some o
theorem Kp.refl {R : Addr → Prop} {H : Hp} : Kp R H R H := fun _ _ r e => ⟨r, e⟩
theorem Kp.trans {R R1 R2 : Addr → Prop} {H H1 H2 : Hp} (a : Kp R H R1 H1) (b : Kp R1 H1 R2 H2) : Kp R H R2 H2 := fun x o r e => b x o (a x o r e).1 (a x o r e).2
theorem Kp.grow {W : Wd cls} {R : Addr → Prop} {H H' : Hp} (hd : W.nd R) (g : Gr W H H') : Kp R H (Nw R H) H' := fun a o r e => ⟨.inl r, hH_of hd g a o r e⟩
theorem Kp.wide {R R' : Addr → Prop} {H : Hp} (h : ∀ a, R a → R' a) : Kp R H R' H := fun a _ r e => ⟨h a r, e⟩
theorem Kp.new {R : Addr → Prop} {H : Hp} {p : Addr} {o : HO} (hp : H p = none) : Kp R H (Al R H) (upd H p o) := fun a u r e => ⟨⟨r, fun z => by rw [e] at z; cases z⟩, same_upd hp a u e⟩
theorem Kp.mut {R : Addr → Prop} {H : Hp} {p : Addr} {o : HO} (hp : ¬ R p) : Kp R H R (upd H p o) := fun a u r e => ⟨r, by rw [upd_ne (show a ≠ p from fun z => hp (z ▸ r))]; exact e⟩
theorem Kp.dq {W : Wd cls} {R R' : Addr → Prop} {H H' : Hp} (k : Kp R H R' H') {v : V} {d : D} (q : Dq W R H v d) : Dq W R' H' v d := q.mono2 k
/-! ### slots change -/
section
variable {c : Cy cls} {R : Addr → Prop} {H H' : Hp} {σ : L2.St} {ρ : Rho}
theorem get_set_self {α : Type} {l : List α} {i : Nat} {a x : α} (h : (l.set i a)[i]? = some x) : x = a := by
  by_cases hi : i < l.length
  · rw [List.getElem?_set_self hi] at h; exact (Option.some.inj h).symm
  · rw [List.getElem?_eq_none (by simpa using hi)] at h; cases h
theorem set_lt {α : Type} {l : List α} {i : Nat} {a x : α} (h : (l.set i a)[i]? = some x) : i < l.length := by
  by_cases hi : i < l.length
  · exact hi
  · rw [List.getElem?_eq_none (by simpa using hi)] at h; cases h
theorem Sl.setVal (S : Sl c R H σ ρ) {i : Nat} {v : V} {d : D} (q : Dq c.W R H v d) : Sl c R H (σ.set i (some v)) (ρ.set i (some (.val d))) where
  ndr := S.ndr
  ok := S.ok
  ok0 := S.ok0
  gr := S.gr
  sub := S.sub
  len := by simp [S.len]
  val := fun j e h => by
    by_cases hj : i = j
    · subst hj
      have lt := set_lt h
      have z := get_set_self h
      cases z
      exact ⟨v, by rw [List.getElem?_set_self (by rw [S.len]; exact lt)], q⟩
    · rw [List.getElem?_set_ne hj] at h ⊢
      exact S.val j e h
  lst := fun j e h => by
    by_cases hj : i = j
    · subst hj
      have z := get_set_self h
      cases z
    · rw [List.getElem?_set_ne hj] at h ⊢
      exact S.lst j e h
  sep := fun j k ds es a hjk h1 h2 h3 => by
    by_cases hj : i = j
    · subst hj
      have z := get_set_self h1
      cases z
    · by_cases hk : i = k
      · subst hk
        have z := get_set_self h2
        cases z
      · rw [List.getElem?_set_ne hj] at h1 h3
        rw [List.getElem?_set_ne hk] at h2 ⊢
        exact S.sep j k ds es a hjk h1 h2 h3
  ob := fun j a k fs h => by
    by_cases hj : i = j
    · subst hj
      have z := get_set_self h
      cases z
    · rw [List.getElem?_set_ne hj] at h ⊢
      exact S.ob j a k fs h
  exc := fun j e h => by
    by_cases hj : i = j
    · subst hj
      have z := get_set_self h
      cases z
    · rw [List.getElem?_set_ne hj] at h ⊢
      exact S.exc j e h
  dc := fun j q h => by
    obtain ⟨hj, h⟩ := slot_set (by simp) h
    rw [List.getElem?_set_ne hj]
    exact S.dc j q h
  sepd := fun j k q q' a hjk h1 h2 h3 => by
    obtain ⟨hj, h1⟩ := slot_set (by simp) h1
    obtain ⟨hk, h2⟩ := slot_set (by simp) h2
    rw [List.getElem?_set_ne hj] at h3
    rw [List.getElem?_set_ne hk]
    exact S.sepd j k q q' a hjk h1 h2 h3
/-- a name goes -/
theorem Sl.setNone (S : Sl c R H σ ρ) {i : Nat} {o : Option V} : Sl c R H (σ.set i o) (ρ.set i none) where
  ndr := S.ndr
  ok := S.ok
  ok0 := S.ok0
  gr := S.gr
  sub := S.sub
  len := by simp [S.len]
  val := fun j e h => by
    by_cases hj : i = j
    · subst hj
      have z := get_set_self h
      cases z
    · rw [List.getElem?_set_ne hj] at h ⊢
      exact S.val j e h
  lst := fun j e h => by
    by_cases hj : i = j
    · subst hj
      have z := get_set_self h
      cases z
    · rw [List.getElem?_set_ne hj] at h ⊢
      exact S.lst j e h
  sep := fun j k ds es a hjk h1 h2 h3 => by
    by_cases hj : i = j
    · subst hj
      have z := get_set_self h1
      cases z
    · by_cases hk : i = k
      · subst hk
        have z := get_set_self h2
        cases z
      · rw [List.getElem?_set_ne hj] at h1 h3
        rw [List.getElem?_set_ne hk] at h2 ⊢
        exact S.sep j k ds es a hjk h1 h2 h3
  ob := fun j a k fs h => by
    by_cases hj : i = j
    · subst hj
      have z := get_set_self h
      cases z
    · rw [List.getElem?_set_ne hj] at h ⊢
      exact S.ob j a k fs h
  exc := fun j e h => by
    by_cases hj : i = j
    · subst hj
      have z := get_set_self h
      cases z
    · rw [List.getElem?_set_ne hj] at h ⊢
      exact S.exc j e h
  dc := fun j q h => by
    obtain ⟨hj, h⟩ := slot_set (by simp) h
    rw [List.getElem?_set_ne hj]
    exact S.dc j q h
  sepd := fun j k q q' a hjk h1 h2 h3 => by
    obtain ⟨hj, h1⟩ := slot_set (by simp) h1
    obtain ⟨hk, h2⟩ := slot_set (by simp) h2
    rw [List.getElem?_set_ne hj] at h3
    rw [List.getElem?_set_ne hk]
    exact S.sepd j k q q' a hjk h1 h2 h3
/-- an own list becomes a datum -/
theorem Sl.pub (S : Sl c R H σ ρ) {i : Nat} {ds : List D} (hi : ρ[i]? = some (some (.lst ds))) : ∃ R' : Addr → Prop, (∀ b, R b → R' b) ∧ Sl c R' H σ (ρ.set i (some (.val (.lst ds)))) := by
  obtain ⟨a, vs, h1, h2, h3, h4, h5⟩ := S.lst i ds hi
  have nd : ¬ c.W.mv a := fun z => S.ok0 _ (c.W.mvb _ z) h3
  have w : ∀ b, R b → (R b ∨ b = a) := fun b r => .inl r
  have li : i < ρ.length := (List.getElem?_eq_some_iff.mp hi).1
  refine ⟨fun b => R b ∨ b = a, w, fun b m z => z.elim (S.ndr b m) (fun z => nd (z ▸ m)), S.ok, S.ok0, S.gr, fun b z => z.elim (S.sub b) (fun z => by subst z; exact .inr h3), by simp [S.len], fun j d h => ?_, fun j e h => ?_, fun j k ds' es b hjk g1 g2 g3 => ?_, fun j b k fs h => ?_, fun j e h => ?_, fun j q h => ?_, fun j k q q' b hjk g1 g2 g3 => ?_⟩
  · by_cases hj : i = j
    · subst hj
      have z := get_set_self h
      cases z
      exact ⟨_, h1, .lst (.inr rfl) h4 (h5.wide w)⟩
    · rw [List.getElem?_set_ne hj] at h
      obtain ⟨v, e1, e2⟩ := S.val j d h
      exact ⟨v, e1, e2.wide w⟩
  · by_cases hj : i = j
    · subst hj
      have z := get_set_self h
      cases z
    · rw [List.getElem?_set_ne hj] at h
      obtain ⟨b, ws, e1, e2, e3, e4, e5⟩ := S.lst j e h
      refine ⟨b, ws, e1, fun z => z.elim e2 fun z => ?_, e3, e4, e5.wide w⟩
      subst z
      exact S.sep i j _ _ _ hj hi h h1 e1
  · by_cases hj : i = j
    · subst hj
      have z := get_set_self g1
      cases z
    · by_cases hk : i = k
      · subst hk
        have z := get_set_self g2
        cases z
      · rw [List.getElem?_set_ne hj] at g1
        rw [List.getElem?_set_ne hk] at g2
        exact S.sep j k ds' es b hjk g1 g2 g3
  · by_cases hj : i = j
    · subst hj
      have z := get_set_self h
      cases z
    · rw [List.getElem?_set_ne hj] at h
      obtain ⟨dx, ws, e1, e2, e3, e4, e5⟩ := S.ob j b k fs h
      refine ⟨dx, ws, e1, fun z => z.elim e2 fun z => ?_, e3, e4, e5.wide w⟩
      subst z
      rw [h4] at e4
      cases e4
  · by_cases hj : i = j
    · subst hj
      have z := get_set_self h
      cases z
    · rw [List.getElem?_set_ne hj] at h
      obtain ⟨v, e1, e2⟩ := S.exc j e h
      exact ⟨v, e1, e2.wide w⟩
  · obtain ⟨hj, h⟩ := slot_set (by simp) h
    obtain ⟨b, o, e1, e2, e3, e4, e5⟩ := S.dc j q h
    refine ⟨b, o, e1, fun z => z.elim e2 fun z => ?_, e3, e4, e5.wide w⟩
    subst z
    rw [h4] at e4
    cases e4
    exact e5.nl
  · obtain ⟨hj, g1⟩ := slot_set (by simp) g1
    obtain ⟨hk, g2⟩ := slot_set (by simp) g2
    exact S.sepd j k q q' b hjk g1 g2 g3
theorem Sl.alive (S : Sl c R H σ ρ) : Sl c (Al R H) H σ ρ where
  ndr := fun b m z => S.ndr b m z.1
  ok := S.ok
  ok0 := S.ok0
  gr := S.gr
  sub := fun a z => S.sub a z.1
  len := S.len
  val := fun j e h => let ⟨v, e1, e2⟩ := S.val j e h; ⟨v, e1, e2.alive⟩
  lst := fun j e h => let ⟨a, vs, e1, e2, e3, e4, e5⟩ := S.lst j e h; ⟨a, vs, e1, fun z => e2 z.1, e3, e4, e5.alive⟩
  sep := S.sep
  ob := fun j a k fs h => let ⟨a, vs, e1, e2, e3, e4, e5⟩ := S.ob j a k fs h; ⟨a, vs, e1, fun z => e2 z.1, e3, e4, e5.alive⟩
  exc := fun j e h => let ⟨v, e1, e2⟩ := S.exc j e h; ⟨v, e1, e2.alive⟩
  dc := fun j q h => let ⟨a, o, e1, e2, e3, e4, e5⟩ := S.dc j q h; ⟨a, o, e1, fun z => e2 z.1, e3, e4, e5.alive⟩
  sepd := S.sepd
/-- a new list (nobody else has it) at a name -/
theorem Sl.setLst (S : Sl c R H σ ρ) {i : Nat} {p : Addr} {vs : List V} {ds : List D} (hp : H p = none) (q : DqL c.W R H vs ds) : Sl c (Al R H) (upd H p (.lst vs)) (σ.set i (some (.ref p))) (ρ.set i (some (.lst ds))) := by
  have s := same_upd (o := .lst vs) hp
  have np : ∀ {a : Addr} {o : HO}, H a = some o → a ≠ p := fun e z => by subst z; rw [hp] at e; cases e
  have hn : ∀ a o, Al R H a → H a = some o → upd H p (.lst vs) a = some o := fun a o _ e => s a o e
  have h0 : c.H0 p = none := none_back S.ok S.gr hp
  have S := S.alive
  refine ⟨S.ndr, ok_same S.ok s, S.ok0, S.gr.trans (Gr.of_same s), S.sub, by simp [S.len], fun j e h => ?_, fun j e h => ?_, fun j k ds' es a hjk g1 g2 g3 => ?_, fun j a k fs h => ?_, fun j e h => ?_, fun j q h => ?_, fun j k q q' b hjk g1 g2 g3 => ?_⟩
  · by_cases hj : i = j
    · subst hj
      have z := get_set_self h
      cases z
    · rw [List.getElem?_set_ne hj] at h ⊢
      obtain ⟨v, e1, e2⟩ := S.val j e h
      exact ⟨v, e1, e2.mono (fun _ r => r) hn⟩
  · by_cases hj : i = j
    · subst hj
      have lt := set_lt h
      have z := get_set_self h
      cases z
      exact ⟨p, vs, by rw [List.getElem?_set_self (by rw [S.len]; exact lt)], fun z => z.2 hp, h0, upd_same, q.alive.mono (fun _ r => r) hn⟩
    · rw [List.getElem?_set_ne hj] at h ⊢
      obtain ⟨a, ws, e1, e2, e3, e4, e5⟩ := S.lst j e h
      exact ⟨a, ws, e1, e2, e3, s _ _ e4, e5.mono (fun _ r => r) hn⟩
  · have key : ∀ {j : Nat} {es : List D} {b : Addr}, i ≠ j → ρ[j]? = some (some (.lst es)) → σ[j]? = some (some (.ref b)) → b ≠ p := fun {j es b} _ h1 h2 => by
      obtain ⟨a, ws, e1, e2, e3, e4, e5⟩ := S.lst j es h1
      rw [e1] at h2
      cases h2
      exact np e4
    by_cases hj : i = j
    · subst hj
      have lt := set_lt g3
      have z := get_set_self g3
      cases z
      rw [List.getElem?_set_ne hjk] at g2 ⊢
      exact fun z => key hjk g2 z rfl
    · by_cases hk : i = k
      · subst hk
        rw [List.getElem?_set_ne hj] at g1 g3
        intro z
        have z := get_set_self z
        cases z
        exact key hj g1 g3 rfl
      · rw [List.getElem?_set_ne hj] at g1 g3
        rw [List.getElem?_set_ne hk] at g2 ⊢
        exact S.sep j k ds' es a hjk g1 g2 g3
  · by_cases hj : i = j
    · subst hj
      have z := get_set_self h
      cases z
    · rw [List.getElem?_set_ne hj] at h ⊢
      obtain ⟨dx, ws, e1, e2, e3, e4, e5⟩ := S.ob j a k fs h
      exact ⟨dx, ws, e1, e2, e3, s _ _ e4, e5.mono (fun _ r => r) hn⟩
  · by_cases hj : i = j
    · subst hj
      have z := get_set_self h
      cases z
    · rw [List.getElem?_set_ne hj] at h ⊢
      obtain ⟨v, e1, e2⟩ := S.exc j e h
      exact ⟨v, e1, e2.mono (fun _ r => r) hn⟩
  · obtain ⟨hj, h⟩ := slot_set (by simp) h
    rw [List.getElem?_set_ne hj]
    obtain ⟨a, o, e1, e2, e3, e4, e5⟩ := S.dc j q h
    exact ⟨a, o, e1, e2, e3, s _ _ e4, e5.mono (fun _ r => r) hn⟩
  · obtain ⟨hj, g1⟩ := slot_set (by simp) g1
    obtain ⟨hk, g2⟩ := slot_set (by simp) g2
    rw [List.getElem?_set_ne hj] at g3
    rw [List.getElem?_set_ne hk]
    exact S.sepd j k q q' b hjk g1 g2 g3
/-- an own list is written -/
theorem Sl.mutLst (S : Sl c R H σ ρ) {i : Nat} {p : Addr} {ws : List V} {ds es : List D} (hi : ρ[i]? = some (some (.lst ds))) (hs : σ[i]? = some (some (.ref p))) (q : DqL c.W R H ws es) :
    Sl c R (upd H p (.lst ws)) σ (ρ.set i (some (.lst es))) := by
  obtain ⟨p', vs', h1, h2, h3, h4, h5⟩ := S.lst i ds hi
  rw [hs] at h1
  cases h1
  have nd : ¬ c.W.mv p := fun z => S.ok0 _ (c.W.mvb _ z) h3
  have hn : ∀ a o, R a → H a = some o → upd H p (.lst ws) a = some o := fun a o r e => by
    rw [upd_ne (show a ≠ p from fun z => h2 (z ▸ r))]
    exact e
  have nb : ∀ a, c.W.base a → a ≠ p := fun a b z => S.ok0 _ b (z ▸ h3)
  refine ⟨S.ndr, c.W.keep H _ S.ok fun a b => upd_ne (nb a b), S.ok0, fun a o n e => ?_, S.sub, by simp [S.len], fun j e h => ?_, fun j e h => ?_, fun j k ds' es' a hjk g1 g2 g3 => ?_, fun j a k fs h => ?_, fun j e h => ?_, fun j q h => ?_, fun j k q q' b hjk g1 g2 g3 => ?_⟩
  · rw [upd_ne (show a ≠ p from fun z => by subst z; rw [h3] at e; cases e)]
    exact S.gr a o n e
  · by_cases hj : i = j
    · subst hj
      have z := get_set_self h
      cases z
    · rw [List.getElem?_set_ne hj] at h
      obtain ⟨v, e1, e2⟩ := S.val j e h
      exact ⟨v, e1, e2.mono (fun _ r => r) hn⟩
  · by_cases hj : i = j
    · subst hj
      have z := get_set_self h
      cases z
      exact ⟨p, ws, hs, h2, h3, upd_same, q.mono (fun _ r => r) hn⟩
    · rw [List.getElem?_set_ne hj] at h
      obtain ⟨a, us, e1, e2, e3, e4, e5⟩ := S.lst j e h
      exact ⟨a, us, e1, e2, e3, by rw [upd_ne (show a ≠ p from fun z => S.sep i j _ _ p hj hi h hs (by rw [e1, z]))]; exact e4, e5.mono (fun _ r => r) hn⟩
  · by_cases hj : i = j
    · subst hj
      rw [List.getElem?_set_ne hjk] at g2
      exact S.sep i k _ _ a hjk hi g2 g3
    · by_cases hk : i = k
      · subst hk
        rw [List.getElem?_set_ne hj] at g1
        exact S.sep j i _ _ a hjk g1 hi g3
      · rw [List.getElem?_set_ne hj] at g1
        rw [List.getElem?_set_ne hk] at g2
        exact S.sep j k _ _ a hjk g1 g2 g3
  · by_cases hj : i = j
    · subst hj
      have z := get_set_self h
      cases z
    · rw [List.getElem?_set_ne hj] at h
      obtain ⟨dx, us, e1, e2, e3, e4, e5⟩ := S.ob j a k fs h
      exact ⟨dx, us, e1, e2, e3, by rw [upd_ne (show a ≠ p from fun z => by subst z; rw [h4] at e4; cases e4)]; exact e4, e5.mono (fun _ r => r) hn⟩
  · by_cases hj : i = j
    · subst hj
      have z := get_set_self h
      cases z
    · rw [List.getElem?_set_ne hj] at h
      obtain ⟨v, e1, e2⟩ := S.exc j e h
      exact ⟨v, e1, e2.mono (fun _ r => r) hn⟩
  · obtain ⟨hj, h⟩ := slot_set (by simp) h
    obtain ⟨a, o, e1, e2, e3, e4, e5⟩ := S.dc j q h
    exact ⟨a, o, e1, e2, e3, by rw [upd_ne (show a ≠ p from fun z => by subst z; rw [h4] at e4; cases e4; exact e5.nl)]; exact e4, e5.mono (fun _ r => r) hn⟩
  · obtain ⟨hj, g1⟩ := slot_set (by simp) g1
    obtain ⟨hk, g2⟩ := slot_set (by simp) g2
    exact S.sepd j k q q' b hjk g1 g2 g3
/-- an object that is being made gets a field -/
theorem Sl.mutOb (S : Sl c R H σ ρ) {i : Nat} {p dx : Addr} {k : Nat} {fs : List (Str × D)} {vs ws : List (Str × V)} {gs : List (Str × D)} (hi : ρ[i]? = some (some (.ob p k fs))) (hH : H p = some (.ins (cls k) dx vs)) (q : DqF c.W R H ws gs)
    (one : ∀ j k' fs', ρ[j]? = some (some (.ob p k' fs')) → j = i) : Sl c R (upd H p (.ins (cls k) dx ws)) σ (ρ.set i (some (.ob p k gs))) := by
  obtain ⟨dx', vs', h1, h2, h3, h4, h5⟩ := S.ob i p k fs hi
  have nd : ¬ c.W.mv p := fun z => S.ok0 _ (c.W.mvb _ z) h3
  have hn : ∀ a o, R a → H a = some o → upd H p (.ins (cls k) dx ws) a = some o := fun a o r e => by
    rw [upd_ne (show a ≠ p from fun z => h2 (z ▸ r))]
    exact e
  have nb : ∀ a, c.W.base a → a ≠ p := fun a b z => S.ok0 _ b (z ▸ h3)
  refine ⟨S.ndr, c.W.keep H _ S.ok fun a b => upd_ne (nb a b), S.ok0, fun a o n e => ?_, S.sub, by simp [S.len], fun j e h => ?_, fun j e h => ?_, fun j k ds' es' a hjk g1 g2 g3 => ?_, fun j a k' fs' h => ?_, fun j e h => ?_, fun j q h => ?_, fun j k q q' b hjk g1 g2 g3 => ?_⟩
  · rw [upd_ne (show a ≠ p from fun z => by subst z; rw [h3] at e; cases e)]
    exact S.gr a o n e
  · by_cases hj : i = j
    · subst hj
      have z := get_set_self h
      cases z
    · rw [List.getElem?_set_ne hj] at h
      obtain ⟨v, e1, e2⟩ := S.val j e h
      exact ⟨v, e1, e2.mono (fun _ r => r) hn⟩
  · by_cases hj : i = j
    · subst hj
      have z := get_set_self h
      cases z
    · rw [List.getElem?_set_ne hj] at h
      obtain ⟨a, us, e1, e2, e3, e4, e5⟩ := S.lst j e h
      exact ⟨a, us, e1, e2, e3, by rw [upd_ne (show a ≠ p from fun z => by subst z; rw [h4] at e4; cases e4)]; exact e4, e5.mono (fun _ r => r) hn⟩
  · by_cases hj : i = j
    · subst hj
      have z := get_set_self g1
      cases z
    · by_cases hk : i = k
      · subst hk
        have z := get_set_self g2
        cases z
      · rw [List.getElem?_set_ne hj] at g1
        rw [List.getElem?_set_ne hk] at g2
        exact S.sep j k _ _ a hjk g1 g2 g3
  · by_cases hj : i = j
    · subst hj
      have z := get_set_self h
      cases z
      exact ⟨dx, ws, h1, h2, h3, upd_same, q.mono (fun _ r => r) hn⟩
    · rw [List.getElem?_set_ne hj] at h
      obtain ⟨dy, us, e1, e2, e3, e4, e5⟩ := S.ob j a k' fs' h
      have na : a ≠ p := fun z => by subst z; exact hj (one j k' fs' h).symm
      exact ⟨dy, us, e1, e2, e3, by rw [upd_ne na]; exact e4, e5.mono (fun _ r => r) hn⟩
  · by_cases hj : i = j
    · subst hj
      have z := get_set_self h
      cases z
    · rw [List.getElem?_set_ne hj] at h
      obtain ⟨v, e1, e2⟩ := S.exc j e h
      exact ⟨v, e1, e2.mono (fun _ r => r) hn⟩
  · obtain ⟨hj, h⟩ := slot_set (by simp) h
    obtain ⟨a, o, e1, e2, e3, e4, e5⟩ := S.dc j q h
    exact ⟨a, o, e1, e2, e3, by rw [upd_ne (show a ≠ p from fun z => by subst z; rw [h4] at e4; cases e4; exact e5.ni)]; exact e4, e5.mono (fun _ r => r) hn⟩
  · obtain ⟨hj, g1⟩ := slot_set (by simp) g1
    obtain ⟨hk, g2⟩ := slot_set (by simp) g2
    exact S.sepd j k q q' b hjk g1 g2 g3
end
end Vl
end
section
set_option maxHeartbeats 4000000
namespace Vl
open PySem PySem.Spec PyProof.Rows L2
variable {cls : Nat → Addr}
/-! ### statements -/
structure Po where
  nx : Rho → Prop
  rt : Rho → D → Prop
  bk : Rho → Prop := fun _ => False
  ct : Rho → Prop := fun _ => False
  ex : Rho → Xd → Prop := fun _ _ => False
structure EndsOk (c : Cy cls) (R0 : Addr → Prop) (H0 : Hp) (Ds : Ends) (p : Po) : Prop where
  nx : ∀ R H σ ρ, Sl c R H σ ρ → Kp R0 H0 R H → p.nx ρ → Ds.nx σ H
  rt : ∀ R H σ ρ v d, Sl c R H σ ρ → Dq c.W R H v d → p.rt ρ d → Ds.rt v H
  bk : ∀ R H σ ρ, Sl c R H σ ρ → Kp R0 H0 R H → p.bk ρ → Ds.bk σ H
  ct : ∀ R H σ ρ, Sl c R H σ ρ → Kp R0 H0 R H → p.ct ρ → Ds.ct σ H
theorem EndsOk.from {c : Cy cls} {R R1 : Addr → Prop} {H H1 : Hp} {Ds : Ends} {p : Po} (en : EndsOk c R H Ds p) (k : Kp R H R1 H1) : EndsOk c R1 H1 Ds p :=
  ⟨fun R2 H2 σ ρ S k2 h => en.nx R2 H2 σ ρ S (k.trans k2) h, en.rt, fun R2 H2 σ ρ S k2 h => en.bk R2 H2 σ ρ S (k.trans k2) h, fun R2 H2 σ ρ S k2 h => en.ct R2 H2 σ ρ S (k.trans k2) h⟩
def ExS (c : Cy cls) (E : L2.St → XK) (ex : Rho → Xd → Prop) : Prop := ∀ R H σ ρ x k d, Sl c R H σ ρ → ExcAt c.W R H k d x → ex ρ x → E σ k d H
/-- what is raised from here on is taken as E tells -/
def Tk (X : Cx) (E : L2.St → XK) : Prop := L2N.Takes X (fun k d σ H => E σ k d H)
theorem Tk.at {X : Cx} {E : L2.St → XK} (t : Tk X E) (σ : L2.St) : Pas X σ (E σ) := L2N.passAt t σ
structure WS (c : Cy cls) (st : Stmt) (ρ : Rho) (p : Po) : Prop where
  run : ∀ (pins : List (Addr × Obj)) (s : Shared) (σ : L2.St) (H : Hp) (R : Addr → Prop) (Ds : Ends) (E : L2.St → XK), Inv c.X pins σ H s → Sl c R H σ ρ → Tk c.X E → EndsOk c R H Ds p → ExS c E p.ex →
    wpAny (model c.X.prog c.X.w) c.X.A (exec st c.X.env) (SP c.X pins Ds) c.X.xe s
structure WSs (c : Cy cls) (st : List Stmt) (ρ : Rho) (p : Po) : Prop where
  run : ∀ (pins : List (Addr × Obj)) (s : Shared) (σ : L2.St) (H : Hp) (R : Addr → Prop) (Ds : Ends) (E : L2.St → XK), Inv c.X pins σ H s → Sl c R H σ ρ → Tk c.X E → EndsOk c R H Ds p → ExS c E p.ex →
    wpAny (model c.X.prog c.X.w) c.X.A (execs st c.X.env) (SP c.X pins Ds) c.X.xe s
section
variable {c : Cy cls} {R : Addr → Prop} {H H' : Hp} {σ : L2.St} {ρ : Rho}
def tUS (c : Cy cls) (st : Stmt) : TS := fun Ds σ H => ∃ (ρ : Rho) (R : Addr → Prop) (E : L2.St → XK) (p : Po), Sl c R H σ ρ ∧ Tk c.X E ∧ EndsOk c R H Ds p ∧ ExS c E p.ex ∧ WS c st ρ p
def tUSs (c : Cy cls) (st : List Stmt) : TS := fun Ds σ H => ∃ (ρ : Rho) (R : Addr → Prop) (E : L2.St → XK) (p : Po), Sl c R H σ ρ ∧ Tk c.X E ∧ EndsOk c R H Ds p ∧ ExS c E p.ex ∧ WSs c st ρ p
theorem psU (c : Cy cls) (st : Stmt) : PS c.X st (tUS c st) := ⟨fun pins s σ H Ds I ⟨ρ, R, E, p, S, ps, en, x, w⟩ => w.run pins s σ H R Ds E I S ps en x⟩
theorem pssU (c : Cy cls) (st : List Stmt) : PSs c.X st (tUSs c st) := ⟨fun pins s σ H Ds I ⟨ρ, R, E, p, S, ps, en, x, w⟩ => w.run pins s σ H R Ds E I S ps en x⟩
theorem ws_of {st : Stmt} {t : TS} {p : Po} (hp : PS c.X st t) (h : ∀ σ H R Ds E, Sl c R H σ ρ → Tk c.X E → EndsOk c R H Ds p → ExS c E p.ex → t Ds σ H) : WS c st ρ p :=
  ⟨fun pins s σ H R Ds E I S ps en x => hp.run pins s σ H Ds I (h σ H R Ds E S ps en x)⟩
theorem wss_of {st : List Stmt} {t : TS} {p : Po} (hp : PSs c.X st t) (h : ∀ σ H R Ds E, Sl c R H σ ρ → Tk c.X E → EndsOk c R H Ds p → ExS c E p.ex → t Ds σ H) : WSs c st ρ p :=
  ⟨fun pins s σ H R Ds E I S ps en x => hp.run pins s σ H Ds I (h σ H R Ds E S ps en x)⟩
theorem ExS.at {E : L2.St → XK} {ex : Rho → Xd → Prop} (x : ExS c E ex) (S : Sl c R H σ ρ) : ExOk c R H (E σ) (ex ρ) := fun y k d H' g ok a h => x _ H' σ ρ y k d (S.grow g ok) a h
theorem Fin.rt {P : D → Prop} {v : V} {H' : Hp} (S : Sl c R H σ ρ) (f : Fin c R H P v H') : ∃ d, Gr c.W c.H0 H' ∧ c.W.ok H' ∧ Dq c.W (Nw c.R0 c.H0) H' v d ∧ P d := by
  obtain ⟨d, g, ok, q, h⟩ := f
  exact ⟨d, S.gr.trans g, ok, q.wide (S.grow g ok).sub, h⟩
theorem WSs.mono {st : List Stmt} {p q : Po} (w : WSs c st ρ p) (h1 : ∀ ρ, p.nx ρ → q.nx ρ) (h2 : ∀ ρ d, p.rt ρ d → q.rt ρ d) (h3 : ∀ ρ, p.bk ρ → q.bk ρ) (h4 : ∀ ρ, p.ct ρ → q.ct ρ) (h5 : ∀ ρ x, p.ex ρ x → q.ex ρ x) : WSs c st ρ q :=
  ⟨fun pins s σ H R Ds E I S ps en x => w.run pins s σ H R Ds E I S ps ⟨fun R H σ ρ S k h => en.nx R H σ ρ S k (h1 ρ h), fun R H σ ρ v d S qq h => en.rt R H σ ρ v d S qq (h2 ρ d h), fun R H σ ρ S k h => en.bk R H σ ρ S k (h3 ρ h), fun R H σ ρ S k h => en.ct R H σ ρ S k (h4 ρ h)⟩ (fun R H σ ρ y k d S a h => x R H σ ρ y k d S a (h5 ρ y h))⟩
theorem wss_nil {p : Po} (h : p.nx ρ) : WSs c [] ρ p := wss_of pss_nil fun σ H R Ds E S _ en _ => en.nx R H σ ρ S Kp.refl h
theorem wss_cons {st : Stmt} {rest : List Stmt} {p : Po} (h : WS c st ρ { p with nx := fun ρ' => WSs c rest ρ' p }) : WSs c (st :: rest) ρ p :=
  wss_of (pss_cons (psU c st) (pssU c rest)) fun σ H R Ds E S ps en x =>
    ⟨ρ, R, E, { p with nx := fun ρ' => WSs c rest ρ' p }, S, ps, ⟨fun R1 H1 σ ρ' S' k w => ⟨ρ', R1, E, p, S', ps, en.from k, x, w⟩, en.rt, en.bk, en.ct⟩, x, h⟩
/-- the last statement -/
theorem wss_one {st : Stmt} {p : Po} (h : WS c st ρ p) : WSs c [st] ρ p := wss_of (pss_one (psU c st)) fun σ H R Ds E S ps en x => ⟨ρ, R, E, p, S, ps, en, x, h⟩
/-- an own list is a datum from here on -/
theorem wss_pub {st : List Stmt} {p : Po} (i : Nat) {ds : List D} (hi : ρ[i]? = some (some (.lst ds))) (h : WSs c st (ρ.set i (some (.val (.lst ds)))) p) : WSs c st ρ p := ⟨fun pins s σ H R Ds E I S ps en x =>
  let ⟨R', hR, S'⟩ := S.pub hi
  h.run pins s σ H R' Ds E I S' ps (en.from (Kp.wide hR)) x⟩
theorem ws_ret {e : Expr} {pos : Pos} {p : Po} (h : WE c e ρ (p.rt ρ) (p.ex ρ)) : WS c (.Return (some e) pos) ρ p :=
  ws_of (ps_ret (peU c e)) fun σ H R Ds E S ps en x => tU.mk h S (ps.at σ) (x.at S) fun v H' f => by
    obtain ⟨d, g, ok, q, hd⟩ := f
    exact en.rt _ H' σ ρ v d (S.grow g ok) q hd
theorem ws_expr {e : Expr} {pos : Pos} {p : Po} (h : WE c e ρ (fun _ => p.nx ρ) (p.ex ρ)) (hs : swapsWith e none pos.line c.X.env = pure false := by rfl) : WS c (.Expr e pos) ρ p :=
  ws_of (ps_expr (peU c e) hs) fun σ H R Ds E S ps en x => tU.mk h S (ps.at σ) (x.at S) fun v H' ⟨d, g, ok, q, hd⟩ => en.nx _ H' σ ρ (S.grow g ok) (Kp.grow S.ndr g) hd
theorem ws_set (i : Nat) {x : Str} {e : Expr} {pos pos' : Pos} {p : Po} (hN : c.X.N.Nodup) (hi : c.X.N[i]? = some x) (h : WE c e ρ (fun d => p.nx (ρ.set i (some (.val d)))) (p.ex ρ)) (hx : Loc c.X.env.scope x := by first | exact Or.inl rfl | exact Or.inr rfl)
    (hs : swapsWith e (some (.Name x pos')) pos.line c.X.env = pure false := by rfl) (hf : c.X.fn x = true ∨ c.X.env.scope.names.lookup x = some .local := by first | exact .inl rfl | exact .inr rfl) : WS c (.Assign [.Name x pos'] e pos) ρ p :=
  ws_of (ps_set hN hi hx (peU c e) hs hf) fun σ H R Ds E S ps en y => tU.mk h S (ps.at σ) (y.at S) fun v H' ⟨d, g, ok, q, hd⟩ => en.nx _ H' _ _ ((S.grow g ok).setVal q) (Kp.grow S.ndr g) hd
theorem ws_if {t : Expr} {a b : List Stmt} {pos : Pos} {p : Po} (h : WT c t ρ (fun k => (k = true → WSs c a ρ p) ∧ (k = false → WSs c b ρ p)) (p.ex ρ)) : WS c (.If t a b pos) ρ p :=
  ws_of (ps_if (ptU c t) (pssU c a) (pssU c b)) fun σ H R Ds E S ps en x => tUT.mk h S (ps.at σ) (x.at S) fun k H' ⟨g, ok, h1, h2⟩ => by
    cases k with
    | true => exact ⟨ρ, _, E, p, S.grow g ok, ps, en.from (Kp.grow S.ndr g), x, h1 rfl⟩
    | false => exact ⟨ρ, _, E, p, S.grow g ok, ps, en.from (Kp.grow S.ndr g), x, h2 rfl⟩
/-! ### tests, values of and, or, not -/
structure WP (c : Cy cls) (e : Expr) (ρ : Rho) (P : Bool → Prop) (ex : Xd → Prop) : Prop where
  run : ∀ (wh : Sem Value) (pins : List (Addr × Obj)) (s : Shared) (σ : L2.St) (H : Hp) (R : Addr → Prop) (E : XK), Inv c.X pins σ H s → Sl c R H σ ρ → Pas c.X σ E → ExOk c R H E ex →
    wpAny (model c.X.prog c.X.w) c.X.A (isTrue e c.X.env wh) (TP c.X pins σ (FinT c H P)) c.X.xe s
theorem wt_wp {e : Expr} {P : Bool → Prop} {ex : Xd → Prop} (h : WP c e ρ P ex) : WT c e ρ P ex := ⟨h.run _⟩
def tUP (c : Cy cls) (e : Expr) : TT := fun σ H Q => ∃ (ρ : Rho) (R : Addr → Prop) (E : XK) (P : Bool → Prop) (ex : Xd → Prop), Sl c R H σ ρ ∧ Pas c.X σ E ∧ ExOk c R H E ex ∧ WP c e ρ P ex ∧ ∀ v H', FinT c H P v H' → Q v H'
theorem pwU (c : Cy cls) (e : Expr) : PW c.X e (tUP c e) := ⟨fun wh pins s σ H Q I h => by
  obtain ⟨ρ, R, E, P, ex, S, p, x, w, k⟩ := h
  exact thn (w.run wh pins s σ H R E I S p x) fun u s' ⟨H', I', f⟩ => ⟨H', I', k _ H' f⟩⟩
theorem wp_of {e : Expr} {te : TT} {P : Bool → Prop} {ex : Xd → Prop} (hp : PW c.X e te) (h : ∀ σ H R E, Sl c R H σ ρ → Pas c.X σ E → ExOk c R H E ex → te σ H (FinT c H P)) : WP c e ρ P ex :=
  ⟨fun wh pins s σ H R E I S p x => hp.run wh pins s σ H _ I (h σ H R E S p x)⟩
theorem FinT.back {P : Bool → Prop} (g : Gr c.W H H') {b : Bool} {H2 : Hp} (f : FinT c H' P b H2) : FinT c H P b H2 := ⟨g.trans f.1, f.2.1, f.2.2⟩
theorem wp_and1 {a : Expr} {pos : Pos} {P : Bool → Prop} {ex : Xd → Prop} (h : WT c a ρ P ex) : WP c (.BoolOp .And [a] pos) ρ P ex := wp_of (pw_and1 (ptU c a)) fun σ H R E S p x => tUT.mk h S p x fun _ _ f => f
theorem wp_or1 {a : Expr} {pos : Pos} {P : Bool → Prop} {ex : Xd → Prop} (h : WT c a ρ P ex) : WP c (.BoolOp .Or [a] pos) ρ P ex := wp_of (pw_or1 (ptU c a)) fun σ H R E S p x => tUT.mk h S p x fun _ _ f => f
theorem wp_and {a b : Expr} {rest : List Expr} {pos : Pos} {P : Bool → Prop} {ex : Xd → Prop} (h : WT c a ρ (fun k => (k = true → WP c (.BoolOp .And (b :: rest) pos) ρ P ex) ∧ (k = false → P false)) ex) : WP c (.BoolOp .And (a :: b :: rest) pos) ρ P ex :=
  wp_of (pw_and (ptU c a) (pwU c _)) fun σ H R E S p x => tUT.mk h S p x fun k H' ⟨g, ok, h1, h2⟩ => by
    cases k with
    | true => exact ⟨ρ, _, E, P, ex, S.grow g ok, p, x.grow g ok, h1 rfl, fun v H2 f => f.back g⟩
    | false => exact ⟨g, ok, h2 rfl⟩
theorem wp_or {a b : Expr} {rest : List Expr} {pos : Pos} {P : Bool → Prop} {ex : Xd → Prop} (h : WT c a ρ (fun k => (k = true → P true) ∧ (k = false → WP c (.BoolOp .Or (b :: rest) pos) ρ P ex)) ex) : WP c (.BoolOp .Or (a :: b :: rest) pos) ρ P ex :=
  wp_of (pw_or (ptU c a) (pwU c _)) fun σ H R E S p x => tUT.mk h S p x fun k H' ⟨g, ok, h1, h2⟩ => by
    cases k with
    | true => exact ⟨g, ok, h1 rfl⟩
    | false => exact ⟨ρ, _, E, P, ex, S.grow g ok, p, x.grow g ok, h2 rfl, fun v H2 f => f.back g⟩
theorem wt_not {a : Expr} {pos : Pos} {P : Bool → Prop} {ex : Xd → Prop} (h : WT c a ρ (fun k => P (!k)) ex) : WT c (.UnaryOp .Not a pos) ρ P ex := wt_of (pt_not (ptU c a)) fun σ H R E S p x => tUT.mk h S p x fun _ _ f => f
theorem we_one {op} {a : Expr} {pos : Pos} {P : D → Prop} {ex : Xd → Prop} (h : WE c a ρ P ex) : WE c (.BoolOp op [a] pos) ρ P ex := we_of (pe_one (peU c a)) fun σ H R E S p x => tU.mk h S p x fun _ _ f => f
theorem we_and {a b : Expr} {rest : List Expr} {pos : Pos} {P : D → Prop} {ex : Xd → Prop} (h : WE c a ρ (fun x => ∃ k, x = .bl k ∧ (k = true → WE c (.BoolOp .And (b :: rest) pos) ρ P ex) ∧ (k = false → P (.bl false))) ex) : WE c (.BoolOp .And (a :: b :: rest) pos) ρ P ex :=
  we_of (pe_and (peU c a) (peU c _)) fun σ H R E S p x => tU.mk h S p x fun v H' ⟨d, g, ok, q, k, e, h1, h2⟩ => by
    subst e
    cases q
    refine ⟨k, rfl, ?_⟩
    cases k with
    | true => exact tU.mk (h1 rfl) (S.grow g ok) p (x.grow g ok) fun v H2 f => f.back g ok
    | false => exact ⟨_, g, ok, .bl false, h2 rfl⟩
theorem we_or {a b : Expr} {rest : List Expr} {pos : Pos} {P : D → Prop} {ex : Xd → Prop} (h : WE c a ρ (fun x => ∃ k, x = .bl k ∧ (k = true → P (.bl true)) ∧ (k = false → WE c (.BoolOp .Or (b :: rest) pos) ρ P ex)) ex) : WE c (.BoolOp .Or (a :: b :: rest) pos) ρ P ex :=
  we_of (pe_or (peU c a) (peU c _)) fun σ H R E S p x => tU.mk h S p x fun v H' ⟨d, g, ok, q, k, e, h1, h2⟩ => by
    subst e
    cases q
    refine ⟨k, rfl, ?_⟩
    cases k with
    | true => exact ⟨_, g, ok, .bl true, h1 rfl⟩
    | false => exact tU.mk (h2 rfl) (S.grow g ok) p (x.grow g ok) fun v H2 f => f.back g ok
theorem we_not {a : Expr} {pos : Pos} {P : D → Prop} {ex : Xd → Prop} (h : WE c a ρ (fun x => ∃ k, x = .bl k ∧ P (.bl (!k))) ex) : WE c (.UnaryOp .Not a pos) ρ P ex :=
  we_of (pe_not (peU c a)) fun σ H R E S p x => tU.mk h S p x fun v H' ⟨d, g, ok, q, k, e, h1⟩ => by
    subst e
    cases q
    exact ⟨k, rfl, _, g, ok, .bl _, h1⟩
/-! ### several expressions in a row -/
def WAs (c : Cy cls) (ρ : Rho) (ex : Xd → Prop) : List Expr → (List D → Prop) → Prop
  | [], P => P []
  | e :: es, P => WE c e ρ (fun d => WAs c ρ ex es (fun ds => P (d :: ds))) ex
def tAs (c : Cy cls) : List Expr → TA
  | [] => tNil
  | e :: es => tCons (tU c e) (tAs c es)
theorem WAs.mono {ex : Xd → Prop} : ∀ {es : List Expr} {P P' : List D → Prop}, WAs c ρ ex es P → (∀ ds, P ds → P' ds) → WAs c ρ ex es P'
  | [], _, _, w, h => h [] w
  | e :: es, P, P', w, h => WE.mono w fun d z => WAs.mono z fun ds k => h (d :: ds) k
theorem WAs.len {ex : Xd → Prop} : ∀ {es : List Expr} {P : List D → Prop}, WAs c ρ ex es P → WAs c ρ ex es (fun ds => P ds ∧ ds.length = es.length)
  | [], _, w => ⟨w, rfl⟩
  | e :: es, P, w => WE.mono w fun d z => WAs.mono z.len fun ds k => ⟨k.1, by rw [List.length_cons, List.length_cons, k.2]⟩
theorem tAs.mk {ex : Xd → Prop} {E : XK} : ∀ {es : List Expr} {R : Addr → Prop} {H : Hp} {P : List D → Prop} {Q : List V → Hp → Prop}, WAs c ρ ex es P → Sl c R H σ ρ → Pas c.X σ E → ExOk c R H E ex → (∀ vs H', FinL c R H P vs H' → Q vs H') → tAs c es σ H Q
  | [], R, H, P, Q, w, S, p, x, k => k [] H ⟨[], Gr.refl, S.ok, .nil, w⟩
  | e :: es, R, H, P, Q, w, S, p, x, k => tU.mk w S p x fun v H1 ⟨d, g, ok, q, w1⟩ => tAs.mk w1 (S.grow g ok) p (x.grow g ok) fun vs H2 ⟨ds, g2, ok2, q2, h2⟩ =>
      k (v :: vs) H2 ⟨d :: ds, g.trans g2, ok2, .cons ((q.grow (S.grow g ok).ndr g2).wide (nw_nw ok g)) (q2.wide (nw_nw ok g)), h2⟩
theorem DqL.up {vs : List V} {ds : List D} {p : Addr} {o : HO} (hp : H p = none) (q : DqL c.W R H vs ds) : DqL c.W (Nw R H) (upd H p o) vs ds := q.mono (fun _ r => .inl r) fun a u _ e => by
  rw [upd_ne (ne_of_none e hp)]
  exact e
theorem we_tup {es : List Expr} {k} {pos : Pos} {P : D → Prop} {ex : Xd → Prop} (h : WAs c ρ ex es (fun ds => P (.tup ds))) (hp : PA c.X es (tAs c es) := by (repeat (first | exact pa_nil | refine pa_cons (peU _ _) ?_))) (hz : es.length ≤ sizeLine := by decide) : WE c (.Tuple es k pos) ρ P ex :=
  we_of (pe_tup hp) fun σ H R E S p x => tAs.mk h.len S p x fun vs H1 ⟨ds, g, ok, q, hd, hl⟩ => ⟨by rw [q.length, hl]; exact hz, fun a ha => (Fin.new ok ha (.tup (.inr ha) upd_same (DqL.up ha q)) hd).back g ok⟩
theorem we_lst {es : List Expr} {pos : Pos} {P : D → Prop} {ex : Xd → Prop} (h : WAs c ρ ex es (fun ds => P (.lst ds))) (hp : PA c.X es (tAs c es) := by (repeat (first | exact pa_nil | refine pa_cons (peU _ _) ?_))) (hz : es.length ≤ sizeLine := by decide) : WE c (.List es pos) ρ P ex :=
  we_of (pe_lst hp) fun σ H R E S p x => tAs.mk h.len S p x fun vs H1 ⟨ds, g, ok, q, hd, hl⟩ => ⟨by rw [q.length, hl]; exact hz, fun a ha => (Fin.new ok ha (.lst (.inr ha) upd_same (DqL.up ha q)) hd).back g ok⟩
/-- name = [..], nobody else has the list -/
theorem ws_own (i : Nat) {x : Str} {es : List Expr} {pos pos' pos2 : Pos} {p : Po} (hN : c.X.N.Nodup) (hi : c.X.N[i]? = some x) (h : WAs c ρ (p.ex ρ) es (fun ds => p.nx (ρ.set i (some (.lst ds))))) (hx : Loc c.X.env.scope x := by first | exact Or.inl rfl | exact Or.inr rfl)
    (hp : PA c.X es (tAs c es) := by (repeat (first | exact pa_nil | refine pa_cons (peU _ _) ?_))) (hz : es.length ≤ sizeLine := by decide)
    (hs : swapsWith (.List es pos2) (some (.Name x pos')) pos.line c.X.env = pure false := by rfl) (hf : c.X.fn x = true ∨ c.X.env.scope.names.lookup x = some .local := by first | exact .inl rfl | exact .inr rfl) : WS c (.Assign [.Name x pos'] (.List es pos2) pos) ρ p :=
  ws_of (ps_set hN hi hx (pe_lst hp) hs hf) fun σ H R Ds E S ps en y => tAs.mk h.len S (ps.at σ) (y.at S) fun vs H1 ⟨ds, g, ok, q, hd, hl⟩ => ⟨by rw [q.length, hl]; exact hz, fun a ha => en.nx _ _ _ _ ((S.grow g ok).setLst ha q) ((Kp.grow S.ndr g).trans (Kp.new ha)) hd⟩
/-- own.append(e) -/
theorem ws_app (i : Nat) {x : Str} {e : Expr} {pos ppos apos npos : Pos} {p : Po} {ds : List D} (hN : c.X.N[i]? = some x) (hρ : ρ[i]? = some (some (.lst ds))) (hz : ds.length < sizeLine) (h : WE c e ρ (fun d => p.nx (ρ.set i (some (.lst (ds ++ [d]))))) (p.ex ρ))
    (hv : Vis c.X.env.scope x := by first | exact Or.inl rfl | exact Or.inr (Or.inl rfl) | exact Or.inr (Or.inr rfl)) (hd : (x == ("__debug__" : Str)) = false := by decide) (hcd : (x == ("__classdict__" : Str)) = false := by decide)
    (hpe : PE c.X (.Call (.Attribute (.Name x npos) "append" apos) [e] [] ppos) (tBM c.X.K "list" rAppend (tVar i) (tAs c [e])) := by exact pe_bm PySem.F.plainAttrs_list PySem.F.slot_list_append PySem.F.type_list_append mt_append (pv _) (pa_cons (peU _ _) pa_nil))
    (hs : swapsWith (.Call (.Attribute (.Name x npos) "append" apos) [e] [] ppos) none pos.line c.X.env = pure false := by rfl) : WS c (.Expr (.Call (.Attribute (.Name x npos) "append" apos) [e] [] ppos) pos) ρ p :=
  ws_of (ps_expr hpe hs) fun σ H R Ds E S ps en y => by
    obtain ⟨a, vs, h1, h2, h3, h4, h5⟩ := S.lst i ds hρ
    refine ⟨_, h1, .inl ⟨rfl, _, .inl (.inl h4)⟩, ?_⟩
    refine tU.mk h S (ps.at σ) (y.at S) fun v H1 ⟨d, g, ok, q, hd⟩ => ?_
    have S1 := S.grow g ok
    obtain ⟨a', vs', g1, g2, g3, g4, g5⟩ := S1.lst i ds hρ
    rw [h1] at g1
    cases g1
    exact ⟨a, vs', v, rfl, rfl, g4, by rw [g5.length]; exact hz, en.nx _ _ _ _ (S1.mutLst hρ h1 (g5.append (.cons q .nil))) ((Kp.grow S.ndr g).trans (Kp.mut g2)) hd⟩
end
end Vl
end
section
set_option maxHeartbeats 4000000
namespace Vl
open PySem PySem.Spec PyProof.Rows L2
variable {cls : Nat → Addr}
/-! ### defs -/
/-- what a def is worth: the arguments, what is wanted of the answer, what is wanted of what is raised -/
abbrev FS := List D → (D → Prop) → (Xd → Prop) → Prop
def spOf (cls : Nat → Addr) (fs : FS) : Sp := fun vs H Q E => ∃ (W : Wd cls) (R : Addr → Prop) (ds : List D) (rt : D → Prop) (ex : Xd → Prop), W.nd R ∧ W.ok H ∧ DqL W R H vs ds ∧ fs ds rt ex ∧
  (∀ v d H', Gr W H H' → W.ok H' → Dq W (Nw R H) H' v d → rt d → Q v H') ∧ (∀ x k d H', Gr W H H' → W.ok H' → ExcAt W (Nw R H) H' k d x → ex x → E k d H')
structure Df (P : Program) (w : World) (K : PySem.W.Frag) (mg : Str → Option Value) (base : Heap) (cls : Nat → Addr) (x : Str) (k : Nat) (ps : List Str) (fs : FS) : Prop where
  ex : ∃ f fd, FnOk P w K mg base (L2N.CX P w) k f fd ps (spOf cls fs) ∧ mg x = some (.ref f) ∧ PySem.W.keepIn K (.ref f) = true ∧ Binds K fd ps []
abbrev DfX (X : Cx) (cls : Nat → Addr) (x : Str) (k : Nat) (ps : List Str) (fs : FS) : Prop := Df X.prog X.w X.K X.mg X.base cls x k ps fs
section
variable {c : Cy cls} {R : Addr → Prop} {H H' : Hp} {σ : L2.St} {ρ : Rho}
theorem spOf.mk {fs : FS} {vs : List V} {ds : List D} {P : D → Prop} {ex : Xd → Prop} {E : XK} (S : Sl c R H σ ρ) (g : Gr c.W H H') (ok : c.W.ok H') (q : DqL c.W (Nw R H) H' vs ds) (h : fs ds P ex) (x : ExOk c R H E ex) : spOf cls fs vs H' (Fin c R H P) E :=
  ⟨c.W, Nw R H, ds, P, ex, (S.grow g ok).ndr, ok, q, h, fun v d H2 g2 ok2 q2 h2 => Fin.back g ok ⟨d, g2, ok2, q2, h2⟩, x.grow g ok⟩
theorem we_call {x : Str} {p pos : Pos} {e : Expr} {es : List Expr} {k : Nat} {ps : List Str} {fs : FS} {P : D → Prop} {ex : Xd → Prop} (d : DfX c.X cls x k ps fs) (hr : Room k c.X.A) (h : WAs c ρ ex (e :: es) (fun ds => fs ds P ex))
    (hg : Gl c.X x := by rfl) (ha : PA c.X (e :: es) (tAs c (e :: es)) := by (repeat (first | exact pa_nil | refine pa_cons (peU _ _) ?_))) (hdb : (x == ("__debug__" : Str)) = false := by decide)
    (he : starEach (e :: es) c.X.env = (false, eval e c.X.env) :: starEach es c.X.env := by rfl) (hpl : (backTo pos (starEach es c.X.env)).any (·.1) = false := by rfl) : WE c (.Call (.Name x p) (e :: es) [] pos) ρ P ex := by
  refine ⟨fun pins s σ H R E I S ps' y => ?_⟩
  obtain ⟨f, fd, F, hm, hk, hb⟩ := d.ex
  refine wpAny_Call_Name_kw (ld_glob I hg hm ?_ hdb)
  have h' : tAs c (e :: es) σ H (fun vs H1 => spOf cls fs vs H1 (Fin c R H P) E) := tAs.mk h S ps' y fun vs H1 ⟨ds, g, ok, q, hd⟩ => spOf.mk S g ok q hd y
  refine PySem.W.callWith_K (h₀ := c.X.base) I.ok.mod.kin hk (thn (ha.run pos pins s σ H _ I h') fun us s1 ⟨vs, H1, I1, r, q⟩ => ⟨I1.kIn, ?_⟩) he hpl
  exact run_fnS (E := fun _ => E) F hr hb ps' I1 r q
end
/-! ### a def's body -/
def rho0 (N : List Str) (ds : List D) : Rho := ds.map (fun d => some (.val d)) ++ List.replicate (N.length - ds.length) none
theorem Sl.start {c : Cy cls} {N : List Str} {vs : List V} {ds : List D} (nd : c.W.nd c.R0) (ok : c.W.ok c.H0) (q : DqL c.W c.R0 c.H0 vs ds) : Sl c c.R0 c.H0 (L2.start N vs) (rho0 N ds) where
  ndr := nd
  ok := ok
  ok0 := c.W.some c.H0 ok
  gr := Gr.refl
  sub := fun a r => .inl r
  len := by simp [L2.start, rho0, q.length]
  val := fun i d h => by
    unfold rho0 at h
    have hi : i < ds.length := by
      by_cases hi : i < ds.length
      · exact hi
      · rw [List.getElem?_append_right (by simpa using hi), List.getElem?_replicate] at h
        split at h <;> cases h
    rw [List.getElem?_append_left (by simpa using hi), List.getElem?_map] at h
    cases e : ds[i]? with
    | none => rw [e] at h; cases h
    | some d' =>
      rw [e] at h
      cases h
      obtain ⟨v, h1, h2⟩ := q.get e
      refine ⟨v, ?_, h2⟩
      unfold L2.start
      have hv : i < vs.length := (List.getElem?_eq_some_iff.mp h1).1
      rw [List.getElem?_append_left (by simpa using hv), List.getElem?_map, h1]
      rfl
  exc := fun i ds' h => by
    unfold rho0 at h
    by_cases hi : i < ds.length
    · rw [List.getElem?_append_left (by simpa using hi), List.getElem?_map] at h
      cases e : ds[i]? with
      | none => rw [e] at h; cases h
      | some d' => rw [e] at h; cases h
    · rw [List.getElem?_append_right (by simpa using hi), List.getElem?_replicate] at h
      split at h <;> cases h
  lst := fun i ds' h => by
    unfold rho0 at h
    by_cases hi : i < ds.length
    · rw [List.getElem?_append_left (by simpa using hi), List.getElem?_map] at h
      cases e : ds[i]? with
      | none => rw [e] at h; cases h
      | some d' => rw [e] at h; cases h
    · rw [List.getElem?_append_right (by simpa using hi), List.getElem?_replicate] at h
      split at h <;> cases h
  sep := fun i j ds' es a _ h => by
    unfold rho0 at h
    by_cases hi : i < ds.length
    · rw [List.getElem?_append_left (by simpa using hi), List.getElem?_map] at h
      cases e : ds[i]? with
      | none => rw [e] at h; cases h
      | some d' => rw [e] at h; cases h
    · rw [List.getElem?_append_right (by simpa using hi), List.getElem?_replicate] at h
      split at h <;> cases h
  ob := fun i a k fs h => by
    unfold rho0 at h
    by_cases hi : i < ds.length
    · rw [List.getElem?_append_left (by simpa using hi), List.getElem?_map] at h
      cases e : ds[i]? with
      | none => rw [e] at h; cases h
      | some d' => rw [e] at h; cases h
    · rw [List.getElem?_append_right (by simpa using hi), List.getElem?_replicate] at h
      split at h <;> cases h
  dc := fun i q h => by
    unfold rho0 at h
    by_cases hi : i < ds.length
    · rw [List.getElem?_append_left (by simpa using hi), List.getElem?_map] at h
      cases e : ds[i]? with
      | none => rw [e] at h; cases h
      | some d' => rw [e] at h; cases h
    · rw [List.getElem?_append_right (by simpa using hi), List.getElem?_replicate] at h
      split at h <;> cases h
  sepd := fun i j q q' a _ h => by
    unfold rho0 at h
    by_cases hi : i < ds.length
    · rw [List.getElem?_append_left (by simpa using hi), List.getElem?_map] at h
      cases e : ds[i]? with
      | none => rw [e] at h; cases h
      | some d' => rw [e] at h; cases h
    · rw [List.getElem?_append_right (by simpa using hi), List.getElem?_replicate] at h
      split at h <;> cases h
abbrev cyOf (P : Program) (w : World) (K : PySem.W.Frag) (mg : Str → Option Value) (base : Heap) (N : List Str) (qual : Str) (sc : Scope) (f : Addr) (cdv : Value) (A : Around) (outer : List Env) (s : Shared) (H : Hp) (E : XK) (W : Wd cls) (R : Addr → Prop) : Cy cls :=
  ⟨cxOf (L2N.CX P w) P w K mg base N qual sc f cdv A outer s H E, W, R, H⟩
section
variable {P : Program} {w : World} {K : PySem.W.Frag} {mg : Str → Option Value} {base : Heap}
/-- a def that may raise, by its body -/
theorem okN {x qual : Str} {st : Stmt} {f : Addr} {fd : FuncData} {N ps : List Str} {k : Nat} {sp : Sp} (F : Fun K x qual st f fd) (S : FnScope N ps (defScope st)) (len : ∀ vs H Q E, sp vs H Q E → vs.length = ps.length)
    (bd : ∀ (cdv : Value) (A : Around) (outer : List Env) (s : Shared) (H : Hp) (vs : List V) (Q : VK) (E : XK), Room k (A.deeper (envOfC qual (defScope st) s.heap.objs.size f cdv)) → sp vs H Q E →
      ∃ t, PSs (cxOf (L2N.CX P w) P w K mg base N qual (defScope st) f cdv A outer s H E) (defBody st) t ∧ t { nx := fun _ H' => Q .non H', rt := Q } (L2.start N vs) H) : FnOk P w K mg base (L2N.CX P w) (k + 1) f fd ps sp := by
  have ⟨_, _, _, _, _, _, cdv, _, _, e, lk, hc⟩ := F.ex
  cases e
  exact fn_of lk hc S len fun A outer s H vs Q E => bd cdv A outer s H vs Q E
theorem def_ok {x qual : Str} {st : Stmt} {f : Addr} {fd : FuncData} {N ps : List Str} {k : Nat} {fs : FS} (F : Fun K x qual st f fd) (S : FnScope N ps (defScope st)) (len : ∀ ds rt ex, fs ds rt ex → ds.length = ps.length)
    (body : ∀ (cdv : Value) (A : Around) (outer : List Env) (s : Shared) (H : Hp) (E : XK) (W : Wd cls) (R : Addr → Prop) (ds : List D) (rt : D → Prop) (ex : Xd → Prop), Room k (A.deeper (envOfC qual (defScope st) s.heap.objs.size f cdv)) → fs ds rt ex →
      WSs (cyOf P w K mg base N qual (defScope st) f cdv A outer s H E W R) (defBody st) (rho0 N ds) { nx := fun _ => rt .non, rt := fun _ => rt, ex := fun _ => ex }) : FnOk P w K mg base (L2N.CX P w) (k + 1) f fd ps (spOf cls fs) := by
  refine okN F S (fun vs H Q E h => ?_) (fun cdv A outer s H vs Q E hr h => ?_)
  · obtain ⟨W, R, ds, rt, ex, _, _, q, h, _⟩ := h
    rw [q.length]
    exact len _ _ _ h
  · obtain ⟨W, R, ds, rt, ex, nd, ok, q, h, k1, k2⟩ := h
    refine ⟨_, pssU (cyOf P w K mg base N qual (defScope st) f cdv A outer s H E W R) _, rho0 N ds, R, fun _ => E, { nx := fun _ => rt .non, rt := fun _ => rt, ex := fun _ => ex }, Sl.start nd ok q, L2N.takes_of rfl rfl rfl rfl, ⟨fun R' H' σ ρ S _ h => ?_, fun R' H' σ ρ v d S q h => k1 v d H' S.gr S.ok (q.wide S.sub) h, fun _ _ _ _ _ _ z => z.elim, fun _ _ _ _ _ _ z => z.elim⟩, fun R' H' σ ρ x kk d S a h => ?_, body cdv A outer s H E W R ds rt ex hr h⟩
    · exact k1 .non .non H' S.gr S.ok .non h
    · exact k2 x kk d H' S.gr S.ok (a.wide S.sub) h
end
/-! ### built-in functions by their name, built-in classes -/
section
variable {c : Cy cls} {R : Addr → Prop} {H H' : Hp} {σ : L2.St} {ρ : Rho}
theorem we_blt {e : Expr} {es : List Expr} {r : List V → Hp → VK → Prop} {F : List D → (D → Prop) → Prop} {P : D → Prop} {ex : Xd → Prop} (hp : PE c.X e (tCB r (tAs c es))) (hF : LsD c r F) (h : WAs c ρ ex es (fun ds => F ds P)) : WE c e ρ P ex :=
  we_of hp fun σ H R E S p x => tAs.mk h S p x fun vs H1 ⟨ds, g, ok, q, hd⟩ => hF _ _ _ _ _ (S.grow g ok).ndr ok q hd _ fun v H' f => f.back g ok
/-- how long a datum is -/
def lenD : D → Option Nat
  | .str x => if x.length ≤ sizeLine then some x.length else none
  | .lst xs => some xs.length
  | .tup xs => some xs.length
  | _ => none
theorem sq_l {K : PySem.W.Frag} {a : Addr} {vs : List V} (h : H a = some (.lst vs)) : SqL K H a vs := .inl (.inl h)
theorem sq_t {K : PySem.W.Frag} {a : Addr} {vs : List V} (h : H a = some (.tup vs)) : SqT K H a vs := .inl (.inl h)
theorem lsd_len : LsD c (fun xs H Q => ∃ x n, xs = [x] ∧ LenV c.X.K x H n ∧ Q (.int n) H) (fun ds P => ∃ d n, ds = [d] ∧ lenD d = some n ∧ P (.int n)) := fun R H vs ds P nd ok q f Q k => by
  obtain ⟨d, n, rfl, hl, h⟩ := f
  cases q with
  | cons q r =>
    cases r
    refine ⟨_, n, rfl, ?_, k _ _ (Fin.here ok nd (.int _) h)⟩
    cases q with
    | str x =>
      simp only [lenD] at hl
      by_cases hz : x.length ≤ sizeLine
      · rw [if_pos hz] at hl
        cases hl
        exact ⟨hz, rfl⟩
      · rw [if_neg hz] at hl
        cases hl
    | lst _ e q2 =>
      simp only [lenD] at hl
      cases hl
      exact .inl ⟨_, sq_l e, by rw [q2.length]⟩
    | tup _ e q2 =>
      simp only [lenD] at hl
      cases hl
      exact .inr ⟨_, sq_t e, by rw [q2.length]⟩
    | _ => cases hl
theorem lsd_abs : LsD c (fun xs H Q => ∃ i, xs = [.int i] ∧ Q (.int (if i < 0 then -i else i)) H) (fun ds P => ∃ i, ds = [.int i] ∧ P (.int (if i < 0 then -i else i))) := fun R H vs ds P nd ok q f Q k => by
  obtain ⟨i, rfl, h⟩ := f
  cases q with
  | cons q r =>
    cases r
    cases q
    exact ⟨i, rfl, k _ _ (Fin.here ok nd (.int _) h)⟩
theorem lsd_int : LsD c (fun xs H Q => (∃ i, xs = [.int i] ∧ Q (.int i) H) ∨ ∃ k, xs = [.bl k] ∧ Q (.int (if k then 1 else 0)) H) (fun ds P => ∃ i, ds = [.int i] ∧ P (.int i)) := fun R H vs ds P nd ok q f Q k => by
  obtain ⟨i, rfl, h⟩ := f
  cases q with
  | cons q r =>
    cases r
    cases q
    exact .inl ⟨i, rfl, k _ _ (Fin.here ok nd (.int _) h)⟩
theorem DqL.ints : ∀ {vs : List V} {ns : List Int} {W : Wd cls}, DqL W R H vs (ns.map D.int) → vs = ns.map V.int
  | _, [], _, .nil => rfl
  | _, n :: ns, _, .cons q r => by cases q; rw [List.map_cons, r.ints]
theorem DqL.bls : ∀ {vs : List V} {ns : List Bool} {W : Wd cls}, DqL W R H vs (ns.map D.bl) → vs = ns.map V.bl
  | _, [], _, .nil => rfl
  | _, n :: ns, _, .cons q r => by cases q; rw [List.map_cons, r.bls]
theorem DqL.strs : ∀ {vs : List V} {ns : List Str} {W : Wd cls}, DqL W R H vs (ns.map D.str) → vs = ns.map V.str
  | _, [], _, .nil => rfl
  | _, n :: ns, _, .cons q r => by cases q; rw [List.map_cons, r.strs]
theorem DqL.of_ints {W : Wd cls} : ∀ (ns : List Int), DqL W R H (ns.map V.int) (ns.map D.int)
  | [] => .nil
  | n :: ns => .cons (.int n) (DqL.of_ints ns)
theorem DqL.of_strs {W : Wd cls} : ∀ (ns : List Str), DqL W R H (ns.map V.str) (ns.map D.str)
  | [] => .nil
  | n :: ns => .cons (.str n) (DqL.of_strs ns)
theorem lsd_sum : LsD c (rSum c.X.K) (fun ds P => ∃ ns : List Int, ds = [.lst (ns.map D.int)] ∧ P (.int ns.sum)) := fun R H vs ds P nd ok q f Q k => by
  obtain ⟨ns, rfl, h⟩ := f
  cases q with
  | cons q r =>
    cases r
    cases q with
    | lst _ e q =>
      rw [q.ints] at e
      exact ⟨_, ns, rfl, sq_l e, k _ _ (Fin.here ok nd (.int _) h)⟩
theorem lsd_all : LsD c (rAll c.X.K) (fun ds P => ∃ bs : List Bool, ds = [.lst (bs.map D.bl)] ∧ P (.bl (bs.all id))) := fun R H vs ds P nd ok q f Q k => by
  obtain ⟨ns, rfl, h⟩ := f
  cases q with
  | cons q r =>
    cases r
    cases q with
    | lst _ e q =>
      rw [q.bls] at e
      exact ⟨_, ns, rfl, sq_l e, k _ _ (Fin.here ok nd (.bl _) h)⟩
/-- sorted of texts, shorter than 64 -/
theorem lsd_sortedS : LsD c (rSortedS c.X.K) (fun ds P => ∃ xs : List Str, ds = [.lst (xs.map D.str)] ∧ xs.length < 64 ∧ ∀ ys : List Str, ys.Perm xs → sortedS ys = true → P (.lst (ys.map D.str))) := fun R H vs ds P nd ok q f Q k => by
  obtain ⟨xs, rfl, hz, h⟩ := f
  cases q with
  | cons q r =>
    cases r
    cases q with
    | lst _ e q =>
      rw [q.strs] at e
      exact ⟨_, xs, rfl, sq_l e, hz, fun ys p h1 h2 hp => k _ _ (Fin.new ok hp (.lst (.inr hp) upd_same (DqL.of_strs ys)) (h ys h1 h2))⟩
/-- tuple(a list), a tuple -/
theorem lsd_tuple : LsD c (fun xs H Q => ∃ p ys, xs = [.ref p] ∧ ((SqL c.X.K H p ys ∧ ∀ l, H l = none → Q (.ref l) (upd H l (.tup ys))) ∨ (SqT c.X.K H p ys ∧ Q (.ref p) H))) (fun ds P => ∃ xs, (ds = [.lst xs] ∨ ds = [.tup xs]) ∧ P (.tup xs)) := fun R H vs ds P nd ok q f Q k => by
  obtain ⟨xs, h1 | h1, h⟩ := f
  · subst h1
    cases q with
    | cons q r =>
      cases r
      cases q with
      | lst _ e q => exact ⟨_, _, rfl, .inl ⟨sq_l e, fun l hl => k _ _ (Fin.new ok hl (.tup (.inr hl) upd_same (DqL.up (c := c) hl q)) h)⟩⟩
  · subst h1
    cases q with
    | cons q r =>
      cases r
      cases q with
      | tup rr e q => exact ⟨_, _, rfl, .inr ⟨sq_t e, k _ _ (Fin.here ok nd (.tup rr e q) h)⟩⟩
/-! ### items -/
def itemD : D → Int → Option D
  | .lst xs, i => atI xs i
  | .tup xs, i => atI xs i
  | .str z, i => if z.length ≤ sizeLine then (atI z.cps.toList i).map fun n => .str ⟨#[n]⟩ else none
  | _, _ => none
theorem DqL.atI {W : Wd cls} {vs : List V} {ds : List D} {i : Int} {d : D} (q : DqL W R H vs ds) (e : L2.atI ds i = some d) : ∃ v, L2.atI vs i = some v ∧ Dq W R H v d := by
  unfold L2.atI at e ⊢
  rw [← q.length] at e
  cases h : ixN vs.length i with
  | none => rw [h] at e; cases e
  | some j =>
    rw [h] at e
    exact q.get e
theorem opd_ix : OpD c (rIx c.X.K) (fun x y P => ∃ i d, y = .int i ∧ itemD x i = some d ∧ P d) := fun R H vx vy x y P nd ok qx qy f Q k => by
  obtain ⟨i, d, rfl, hi, h⟩ := f
  cases qy
  cases qx with
  | str z =>
    simp only [itemD] at hi
    by_cases hz : z.length ≤ sizeLine
    · rw [if_pos hz] at hi
      cases e : L2.atI z.cps.toList i with
      | none => rw [e] at hi; cases hi
      | some n =>
        rw [e] at hi
        cases hi
        exact .inr (.inr ⟨z, i, n, rfl, rfl, hz, e, k _ _ (Fin.here ok nd (.str _) h)⟩)
    · rw [if_neg hz] at hi
      cases hi
  | lst rr e q =>
    simp only [itemD] at hi
    obtain ⟨v, h1, h2⟩ := q.atI hi
    exact .inl ⟨_, _, i, v, rfl, rfl, sq_l e, h1, k _ _ (Fin.here ok nd h2 h)⟩
  | tup rr e q =>
    simp only [itemD] at hi
    obtain ⟨v, h1, h2⟩ := q.atI hi
    exact .inr (.inl ⟨_, _, i, v, rfl, rfl, sq_t e, h1, k _ _ (Fin.here ok nd h2 h)⟩)
  | _ => simp only [itemD] at hi; cases hi
end
end Vl
end
section
set_option maxHeartbeats 4000000
namespace Vl
open PySem PySem.Spec PyProof.Rows L2
variable {cls : Nat → Addr}
section
variable {c : Cy cls} {R : Addr → Prop} {H H' : Hp} {σ : L2.St} {ρ : Rho}
/-! ### what a for walks -/
/-- J yields the items, as long as the region is kept -/
def IterD (c : Cy cls) (R : Addr → Prop) (H : Hp) (J : It) (items : List D) : Prop := ∃ (G : Hp → Prop) (Y : Nat → Hp → V → Hp → Prop), Walk J items.length G Y ∧ (∀ R' H', Kp R H R' H' → G H') ∧
  ∀ i Hc x H', Y i Hc x H' → ∀ R', c.W.nd R' → c.W.ok Hc → Kp R H R' Hc → ∃ d, items[i]? = some d ∧ Same Hc H' ∧ Dq c.W (Nw R' Hc) H' x d
def FinJ (c : Cy cls) (R : Addr → Prop) (H : Hp) (P : List D → Prop) : It → Hp → Prop := fun J H' => ∃ items, Gr c.W H H' ∧ c.W.ok H' ∧ IterD c (Nw R H) H' J items ∧ P items
structure WI (c : Cy cls) (tg iter : Expr) (ρ : Rho) (P : List D → Prop) (ex : Xd → Prop) : Prop where
  run : ∀ (pins : List (Addr × Obj)) (s : Shared) (σ : L2.St) (H : Hp) (R : Addr → Prop) (E : XK), Inv c.X pins σ H s → Sl c R H σ ρ → Pas c.X σ E → ExOk c R H E ex →
    wpAny (model c.X.prog c.X.w) c.X.A (eval iter c.X.env) (fun v s1 => wpAny (model c.X.prog c.X.w) c.X.A (pyIter v) (PIE c.X pins σ tg (FinJ c R H P)) c.X.xe s1) c.X.xe s
def tUI (c : Cy cls) (tg iter : Expr) : TI := fun σ H Q => ∃ (ρ : Rho) (R : Addr → Prop) (E : XK) (P : List D → Prop) (ex : Xd → Prop), Sl c R H σ ρ ∧ Pas c.X σ E ∧ ExOk c R H E ex ∧ WI c tg iter ρ P ex ∧ ∀ J H', FinJ c R H P J H' → Q J H'
theorem piU (c : Cy cls) (tg iter : Expr) : PI c.X tg iter (tUI c tg iter) := ⟨fun pins s σ H Q I h => by
  obtain ⟨ρ, R, E, P, ex, S, p, x, w, k⟩ := h
  exact thn (w.run pins s σ H R E I S p x) fun v s1 q => thn q fun itv s2 z => by
    obtain ⟨it, fp, tn, J, H2, e, I2, T, st2, f2, f⟩ := z
    exact ⟨it, fp, tn, J, H2, e, I2, T, st2, f2, k J H2 f⟩⟩
theorem wi_of {tg iter : Expr} {ti : TI} {P : List D → Prop} {ex : Xd → Prop} (hp : PI c.X tg iter ti) (h : ∀ σ H R E, Sl c R H σ ρ → Pas c.X σ E → ExOk c R H E ex → ti σ H (FinJ c R H P)) : WI c tg iter ρ P ex :=
  ⟨fun pins s σ H R E I S p x => hp.run pins s σ H _ I (h σ H R E S p x)⟩
theorem IterD.list {a : Addr} {vs : List V} {ds : List D} (r : R a) (e : H a = some (.lst vs)) (q : DqL c.W R H vs ds) : IterD c R H (Itl c.X.K a) ds :=
  ⟨_, _, by rw [← q.length]; exact walk_list, fun R' H' k => sq_l (k a _ r e).2, fun i Hc x H' y R' nd ok k => by
    obtain ⟨e1, e2⟩ := y
    subst e1
    obtain ⟨d, h1, h2⟩ := q.get' e2
    exact ⟨d, h1, Same.refl _, (k.dq h2).grow nd Gr.refl⟩⟩
theorem IterD.tup {a : Addr} {vs : List V} {ds : List D} (r : R a) (e : H a = some (.tup vs)) (q : DqL c.W R H vs ds) : IterD c R H (Itt c.X.K a) ds :=
  ⟨_, _, by rw [← q.length]; exact walk_tup, fun R' H' k => sq_t (k a _ r e).2, fun i Hc x H' y R' nd ok k => by
    obtain ⟨e1, e2⟩ := y
    subst e1
    obtain ⟨d, h1, h2⟩ := q.get' e2
    exact ⟨d, h1, Same.refl _, (k.dq h2).grow nd Gr.refl⟩⟩
/-- the signs of a text -/
def signs (z : Str) : List D := z.cps.toList.map fun n => .str ⟨#[n]⟩
theorem signs_length (z : Str) : (signs z).length = z.length := by unfold signs; rw [List.length_map, Array.length_toList]; rfl
theorem IterD.str {z : Str} : IterD c R H (Its z) (signs z) :=
  ⟨fun _ => True, _, by rw [signs_length]; exact walk_str, fun _ _ _ => True.intro, fun i Hc x H' y R' nd ok k => by
    obtain ⟨e1, n, h1, h2⟩ := y
    subst e1 h2
    refine ⟨.str ⟨#[n]⟩, ?_, Same.refl _, .str _⟩
    unfold signs
    rw [List.getElem?_map, Array.getElem?_toList, h1]
    rfl⟩
/-- 0, 1, .. below n, from lo -/
def rangeD (lo : Int) (n : Nat) : List D := (List.range n).map fun i => .int (lo + (i : Nat))
theorem rangeD_length {lo : Int} {n : Nat} : (rangeD lo n).length = n := by unfold rangeD; rw [List.length_map, List.length_range]
theorem rangeD_get {lo : Int} {n i : Nat} {d : D} (h : (rangeD lo n)[i]? = some d) : i < n ∧ d = .int (lo + (i : Nat)) := by
  unfold rangeD at h
  rw [List.getElem?_map] at h
  by_cases hi : i < n
  · rw [List.getElem?_range hi] at h
    exact ⟨hi, (Option.some.inj h).symm⟩
  · rw [List.getElem?_eq_none (by simpa using hi)] at h
    cases h
theorem IterD.range {lo : Int} {n : Nat} : IterD c R H (Itr lo n) (rangeD lo n) := by
  refine ⟨fun _ => True, fun i Hc x H' => i < n ∧ H' = Hc ∧ x = .int (lo + (i : Nat)), ?_, fun _ _ _ => True.intro, fun i Hc x H' y R' nd ok k => ?_⟩
  · rw [rangeD_length]
    exact ⟨fun _ _ hi _ => hi, fun _ _ => Nat.le_refl _, fun i _ _ _ hi _ y => ⟨hi, y⟩⟩
  · obtain ⟨hi, e1, e2⟩ := y
    subst e1 e2
    refine ⟨.int (lo + (i : Nat)), ?_, Same.refl _, .int _⟩
    unfold rangeD
    rw [List.getElem?_map, List.getElem?_range hi]
    rfl
/-- pairs -/
theorem IterD.pair {J : It} {n : Nat} {G : Hp → Prop} {fx fy : Nat → Option V} {gx gy : Nat → Option D} {items : List D} (w : Walk J n G (YPair fx fy)) (hn : items.length = n) (hG : ∀ R' H', Kp R H R' H' → G H')
    (hx : ∀ i v, fx i = some v → ∃ d, gx i = some d ∧ Dq c.W R H v d) (hy : ∀ i v, fy i = some v → ∃ d, gy i = some d ∧ Dq c.W R H v d) (hi : ∀ i d e, gx i = some d → gy i = some e → items[i]? = some (.tup [d, e])) : IterD c R H J items := by
  refine ⟨G, _, by rw [hn]; exact w, hG, fun i Hc x H' y R' nd ok k => ?_⟩
  obtain ⟨T, vx, vy, e1, e2, e3, e4, e5⟩ := y
  subst e1 e3
  obtain ⟨dx, h1, q1⟩ := hx i vx e4
  obtain ⟨dy, h2, q2⟩ := hy i vy e5
  exact ⟨.tup [dx, dy], hi i dx dy h1 h2, same_upd e2, .tup (.inr e2) upd_same (DqL.up (c := c) e2 (.cons (k.dq q1) (.cons (k.dq q2) .nil)))⟩
theorem wi_list {tg l : Expr} {P : List D → Prop} {ex : Xd → Prop} (h : WE c l ρ (fun x => ∃ ds, x = .lst ds ∧ P ds) ex) : WI c tg l ρ P ex :=
  wi_of (pi_list (peU c l)) fun σ H R E S p x => tU.mk h S p x fun v H1 ⟨d, g, ok, q, ds, e, hp⟩ => by
    subst e
    cases q with
    | lst r e q => exact ⟨_, rfl, ⟨_, sq_l e⟩, ds, g, ok, IterD.list r e q, hp⟩
theorem wi_tup {tg l : Expr} {P : List D → Prop} {ex : Xd → Prop} (h : WE c l ρ (fun x => ∃ ds, x = .tup ds ∧ P ds) ex) : WI c tg l ρ P ex :=
  wi_of (pi_tup (peU c l)) fun σ H R E S p x => tU.mk h S p x fun v H1 ⟨d, g, ok, q, ds, e, hp⟩ => by
    subst e
    cases q with
    | tup r e q => exact ⟨_, rfl, ⟨_, sq_t e⟩, ds, g, ok, IterD.tup r e q, hp⟩
theorem wi_str {tg l : Expr} {P : List D → Prop} {ex : Xd → Prop} (h : WE c l ρ (fun x => ∃ z, x = .str z ∧ P (signs z)) ex) : WI c tg l ρ P ex :=
  wi_of (pi_str (peU c l)) fun σ H R E S p x => tU.mk h S p x fun v H1 ⟨d, g, ok, q, z, e, hp⟩ => by
    subst e
    cases q
    exact ⟨z, rfl, signs z, g, ok, IterD.str, hp⟩
theorem wi_range1 {tg a : Expr} {pp pos : Pos} {P : List D → Prop} {ex : Xd → Prop} (hm : c.X.mg "range" = none) (h : WE c a ρ (fun x => ∃ n : Int, x = .int n ∧ -(2 ^ 62) ≤ n ∧ n < 2 ^ 62 ∧ P (rangeD 0 n.toNat)) ex)
    (hg : Gl c.X "range" := by rfl) (ha : PA c.X [a] (tAs c [a]) := by (repeat (first | exact pa_nil | refine pa_cons (peU _ _) ?_))) (hs : starEach [a] c.X.env = [(false, eval a c.X.env)] := by rfl) : WI c tg (.Call (.Name "range" pp) [a] [] pos) ρ P ex :=
  wi_of (pi_range1 hg hm ha hs) fun σ H R E S p x => tU.mk h S p x fun v H1 ⟨d, g, ok, q, n, e, h1, h2, hp⟩ => by
    subst e
    cases q
    exact ⟨n, rfl, h1, h2, _, g, ok, IterD.range, hp⟩
theorem wi_range2 {tg a b : Expr} {pp pos : Pos} {P : List D → Prop} {ex : Xd → Prop} (hm : c.X.mg "range" = none) (h : WE c a ρ (fun x => WE c b ρ (fun y => ∃ m n : Int, x = .int m ∧ y = .int n ∧ (-(2 ^ 62) ≤ m ∧ m < 2 ^ 62 ∧ -(2 ^ 62) ≤ n ∧ n < 2 ^ 62) ∧ P (rangeD m (n - m).toNat)) ex) ex)
    (hg : Gl c.X "range" := by rfl) (ha : PA c.X [a, b] (tAs c [a, b]) := by (repeat (first | exact pa_nil | refine pa_cons (peU _ _) ?_))) (hs : starEach [a, b] c.X.env = [(false, eval a c.X.env), (false, eval b c.X.env)] := by rfl) (hs2 : starEach [b] c.X.env = [(false, eval b c.X.env)] := by rfl) :
    WI c tg (.Call (.Name "range" pp) [a, b] [] pos) ρ P ex :=
  wi_of (pi_range2 hg hm ha hs hs2) fun σ H R E S p x => tAs.mk (P := fun ds => ∃ m n : Int, ds = [.int m, .int n] ∧ (-(2 ^ 62) ≤ m ∧ m < 2 ^ 62 ∧ -(2 ^ 62) ≤ n ∧ n < 2 ^ 62) ∧ P (rangeD m (n - m).toNat)) (WE.mono h fun d z => WE.mono z fun d' ⟨m, n, e1, e2, hb, hp⟩ => ⟨m, n, by rw [e1, e2], hb, hp⟩) S p x fun vs H1 ⟨ds, g, ok, q, m, n, e, hb, hp⟩ => by
    subst e
    cases q with
    | cons q r =>
      cases q
      cases r with
      | cons q r =>
        cases q
        cases r
        exact ⟨m, n, rfl, hb, _, g, ok, IterD.range, hp⟩
/-- numbered -/
def enumD (xs : List D) : List D := (xs.zipIdx).map fun p => .tup [.int (p.2 : Nat), p.1]
theorem enumD_length {xs : List D} : (enumD xs).length = xs.length := by unfold enumD; rw [List.length_map, List.length_zipIdx]
theorem enumD_get {xs : List D} {i : Nat} : (enumD xs)[i]? = (xs[i]?).map fun d => .tup [.int (i : Nat), d] := by
  unfold enumD
  rw [List.getElem?_map, List.getElem?_zipIdx]
  cases xs[i]? with
  | none => rfl
  | some d => simp
theorem wi_enumL {e : Expr} {elts : List Expr} {kk : Nat} {pp pos tpos : Pos} {P : List D → Prop} {ex : Xd → Prop} (hm : c.X.mg "enumerate" = none) (h : WE c e ρ (fun x => ∃ ds, x = .lst ds ∧ P (enumD ds)) ex)
    (hg : Gl c.X "enumerate" := by rfl) (ha : PA c.X [e] (tAs c [e]) := by (repeat (first | exact pa_nil | refine pa_cons (peU _ _) ?_))) (hs : starEach [e] c.X.env = [(false, eval e c.X.env)] := by rfl) : WI c (.Tuple elts kk tpos) (.Call (.Name "enumerate" pp) [e] [] pos) ρ P ex :=
  wi_of (pi_enum hg hm ha hs) fun σ H R E S p x => tU.mk h S p x fun v H1 ⟨d, g, ok, q, ds, e, hp⟩ => by
    subst e
    cases q with
    | lst r e q =>
      refine ⟨_, _, rfl, sq_l e, enumD ds, g, ok, IterD.pair (gx := fun i => some (.int (i : Nat))) (gy := fun i => ds[i]?) walk_enum (by rw [enumD_length, q.length]) (fun R' H' k => sq_l (k _ _ r e).2) (fun i v h => ?_) (fun i v h => q.get' h) (fun i d e h1 h2 => ?_), hp⟩
      · cases h
        exact ⟨_, rfl, .int _⟩
      · cases h1
        rw [enumD_get, h2]
        rfl
/-! ### targets -/
structure WG (c : Cy cls) (tg : Expr) (d : D) (ρ : Rho) (Q : Rho → Prop) : Prop where
  run : ∀ (pins : List (Addr × Obj)) (s : Shared) (σ : L2.St) (H : Hp) (R : Addr → Prop) (v : V) (u : Value), Inv c.X pins σ H s → Sl c R H σ ρ → Dq c.W R H v d → RelV v u →
  wpAny (model c.X.prog c.X.w) c.X.A (assign tg c.X.env u) (fun _ s' => ∃ σ', Inv c.X pins σ' H s' ∧ ∃ ρ', Sl c R H σ' ρ' ∧ Q ρ') c.X.xe s
def tUG (c : Cy cls) (tg : Expr) : TG := fun v σ H Q => ∃ (ρ : Rho) (R : Addr → Prop) (d : D) (P : Rho → Prop), Sl c R H σ ρ ∧ Dq c.W R H v d ∧ WG c tg d ρ P ∧ ∀ σ' ρ', Sl c R H σ' ρ' → P ρ' → Q σ' H
theorem pgU (c : Cy cls) (tg : Expr) : PG c.X tg (tUG c tg) := ⟨fun pins s σ H v u Q I r h => by
  obtain ⟨ρ, R, d, P, S, q, w, k⟩ := h
  exact thn (w.run pins s σ H R v u I S q r) fun _ s' ⟨σ', I', ρ', S', hp⟩ => ⟨σ', H, I', k σ' ρ' S' hp⟩⟩
theorem wg_name (i : Nat) {x : Str} {pos : Pos} {d : D} {Q : Rho → Prop} (hN : c.X.N.Nodup) (hi : c.X.N[i]? = some x) (h : Q (ρ.set i (some (.val d)))) (hx : Loc c.X.env.scope x := by first | exact Or.inl rfl | exact Or.inr rfl)
    (hf : c.X.fn x = true ∨ c.X.env.scope.names.lookup x = some .local := by first | exact .inl rfl | exact .inr rfl) : WG c (.Name x pos) d ρ Q := ⟨fun pins s σ H R v u I S q r =>
  wpAny_assign_Name (store_ok I hN hi hx r (fun s' I' => ⟨_, I', _, S.setVal q, h⟩) hf)⟩
/-- several targets -/
def WGs (c : Cy cls) : List Expr → List D → Rho → (Rho → Prop) → Prop
  | [], [], ρ, Q => Q ρ
  | t :: ts, d :: ds, ρ, Q => WG c t d ρ (fun ρ' => WGs c ts ds ρ' Q)
  | _, _, _, _ => False
def tUGs (c : Cy cls) : List Expr → TGs
  | [] => gNil
  | t :: ts => gCons (tUG c t) (tUGs c ts)
theorem tUGs.mk : ∀ {ts : List Expr} {ds : List D} {ρ : Rho} {σ : L2.St} {vs : List V} {Q : Rho → Prop} {K : L2.St → Hp → Prop}, WGs c ts ds ρ Q → Sl c R H σ ρ → DqL c.W R H vs ds → (∀ σ' ρ', Sl c R H σ' ρ' → Q ρ' → K σ' H) → tUGs c ts vs σ H K
  | [], [], ρ, σ, _, Q, K, w, S, .nil, k => ⟨rfl, k σ ρ S w⟩
  | t :: ts, d :: ds, ρ, σ, _, Q, K, w, S, .cons q r, k => ⟨_, _, rfl, ρ, R, d, _, S, q, w, fun σ' ρ' S' w' => tUGs.mk w' S' r k⟩
  | [], _ :: _, _, _, _, _, _, w, _, _, _ => w.elim
  | _ :: _, [], _, _, _, _, _, w, _, _, _ => w.elim
theorem wg_tup {ts : List Expr} {k : Nat} {pos : Pos} {x : D} {Q : Rho → Prop} (hc : c.X.calm = true) (h : ∃ ds, x = .tup ds ∧ ds.length = ts.length ∧ WGs c ts ds ρ Q) (hp : PGs c.X ts (tUGs c ts) := by (repeat (first | exact pgs_nil | refine pgs_cons (pgU _ _) ?_)))
    (hn : (assignEach ts c.X.env).length = ts.length := by rfl) (hst : (assignEach ts c.X.env).findIdx? (·.1) = none := by rfl) : WG c (.Tuple ts k pos) x ρ Q := ⟨fun pins s σ H R v u I S q r => by
  obtain ⟨ds, e, hl, w⟩ := h
  subst e
  cases q with
  | tup ra ea q =>
    refine thn ((pg_tup (k := k) (pos := pos) hc hp hn hst).run pins s σ H _ u (fun σ' H' => H' = H ∧ ∃ ρ', Sl c R H σ' ρ' ∧ Q ρ') I r ⟨_, _, rfl, sq_t ea, by rw [q.length, hl], tUGs.mk w S q fun σ' ρ' S' hq => ⟨rfl, ρ', S', hq⟩⟩) fun _ s' ⟨σ', H', I', e', ρ', S', hq⟩ => ?_
    subst e'
    exact ⟨σ', I', ρ', S', hq⟩⟩
/-- target = value -/
theorem ws_asg {tg e : Expr} {pos : Pos} {p : Po} (h : WE c e ρ (fun d => WG c tg d ρ p.nx) (p.ex ρ)) (hs : swapsWithSole [tg] e pos.line c.X.env = pure false := by rfl) (hw : swappedStores [tg] e c.X.env = pure none := by rfl)
    (h1 : (assignEach [tg] c.X.env).map (·.2) = [assign tg c.X.env] := by rfl) : WS c (.Assign [tg] e pos) ρ p :=
  ws_of (ps_asg (peU c e) (pgU c tg) hs hw h1) fun σ H R Ds E S ps en x => tU.mk h S (ps.at σ) (x.at S) fun v H' ⟨d, g, ok, q, w⟩ => ⟨ρ, _, d, _, S.grow g ok, q, w, fun σ' ρ' S' hn => en.nx _ H' σ' ρ' S' (Kp.grow S.ndr g) hn⟩
/-- for -/
theorem ws_for {tg iter : Expr} {body : List Stmt} {pos : Pos} {p : Po} (hc : c.X.calm = true) (h : WI c tg iter ρ (fun items => ∃ I : Nat → Rho → Prop, I 0 ρ ∧
      (∀ i d ρ', items[i]? = some d → I i ρ' → WG c tg d ρ' (fun ρ2 => WSs c body ρ2 { p with nx := I (i + 1), ct := I (i + 1), bk := p.nx })) ∧ (∀ ρ', I items.length ρ' → p.nx ρ')) (p.ex ρ))
    (hpass : PassesOwn (model c.X.prog c.X.w) c.X.A c.X.env c.X.xe := by exact passes_of rfl) (hs : ∀ x, foldedSetIterable iter c.X.env x = pure x := by intro _; rfl) : WS c (.For tg iter body [] pos) ρ p :=
  ws_of (ps_for hpass hc (piU c tg iter) (pgU c tg) (pssU c body) hs) fun σ H R Ds E S ps en x => ⟨ρ, R, E σ, _, p.ex ρ, S, ps.at σ, x.at S, h, fun J H1 ⟨items, g, ok, ⟨G, Y, w, hG, hY⟩, I, i0, turn, done⟩ => by
    have S1 := S.grow g ok
    have K1 := Kp.grow S.ndr g
    refine for_it w (fun i σ' H' => ∃ R' ρ', Sl c R' H' σ' ρ' ∧ Kp (Nw R H) H1 R' H' ∧ I i ρ') ⟨_, ρ, S1, Kp.refl, i0⟩ (fun i σ' H' _ ⟨R', ρ', S', k, _⟩ => hG R' H' k) (fun i v σ' Hc H' hi ⟨R', ρ', S', k, hI⟩ y => ?_) (fun σ' H' ⟨R', ρ', S', k, hI⟩ => en.nx R' H' σ' ρ' S' (K1.trans k) (done ρ' hI))
    obtain ⟨d, hd, sm, q⟩ := hY i Hc v H' y R' S'.ndr S'.ok k
    have S2 := S'.same sm
    have k2 : Kp (Nw R H) H1 (Nw R' Hc) H' := k.trans (Kp.grow S'.ndr (Gr.of_same sm))
    refine ⟨ρ', _, d, _, S2, q, turn i d ρ' hd hI, fun σ2 ρ2 S3 w2 => ?_⟩
    exact ⟨ρ2, _, E, { p with nx := I (i + 1), ct := I (i + 1), bk := p.nx }, S3, ps, ⟨fun R4 H4 σ4 ρ4 S4 k4 h4 => ⟨R4, ρ4, S4, k2.trans k4, h4⟩, en.rt, fun R4 H4 σ4 ρ4 S4 k4 h4 => en.nx R4 H4 σ4 ρ4 S4 (K1.trans (k2.trans k4)) h4, fun R4 H4 σ4 ρ4 S4 k4 h4 => ⟨R4, ρ4, S4, k2.trans k4, h4⟩⟩, x, w2⟩⟩
end
end Vl
end
section
set_option maxHeartbeats 4000000
namespace Vl
open PySem PySem.Spec PyProof.Rows L2
variable {cls : Nat → Addr}
section
variable {c : Cy cls} {R : Addr → Prop} {H H' : Hp} {σ : L2.St} {ρ : Rho}
/-! ### list comprehensions -/
/-- a block's standing -/
abbrev Cy.blk (c : Cy cls) (s : Shared) (H : Hp) (scope : Scope) (C : Addr) (cl : List (Str × Addr)) (fp : List Addr) : Cy cls := ⟨c.X.blk s H scope (compEnvC scope cl C c.X.env) fp, c.W, c.R0, c.H0⟩
theorem passN {X : Cx} : Passes (L2N.CX X.prog X.w) X E0 := fun _ _ _ _ _ _ _ h => by
  obtain ⟨_, _, _, _, _, _, _, _, _, _, _, _, no⟩ := h
  exact False.elim no
def wipeR (ρ : Rho) : List Nat → Rho
  | [] => ρ
  | v :: vs => (wipeR ρ vs).set v none
theorem Sl.wipe (S : Sl c R H σ ρ) : ∀ vs : List Nat, Sl c R H (L2.wipe σ vs) (wipeR ρ vs)
  | [] => S
  | v :: vs => (S.wipe vs).setNone
/-- elt in every block -/
def tUB (c : Cy cls) (scope : Scope) (e : Expr) : TE := fun σ H Q => ∀ s H0 C cl fp, tU (c.blk s H0 scope C cl fp) e σ H Q
theorem peUB (scope : Scope) (e : Expr) (s : Shared) (H0 : Hp) (C : Addr) (cl : List (Str × Addr)) (fp : List Addr) : PE (c.X.blk s H0 scope (compEnvC scope cl C c.X.env) fp) e (tUB c scope e) := ⟨fun pins s1 σ H Q I h => (peU (c.blk s H0 scope C cl fp) e).run pins s1 σ H Q I (h s H0 C cl fp)⟩
/-- the tests in every block -/
def tUTB (c : Cy cls) (scope : Scope) (e : Expr) : TT := fun σ H Q => ∀ s H0 C cl fp, tUT (c.blk s H0 scope C cl fp) e σ H Q
theorem ptUB (scope : Scope) (e : Expr) (s : Shared) (H0 : Hp) (C : Addr) (cl : List (Str × Addr)) (fp : List Addr) : PT (c.X.blk s H0 scope (compEnvC scope cl C c.X.env) fp) e (tUTB c scope e) := ⟨fun pins s1 σ H Q I h => (ptU (c.blk s H0 scope C cl fp) e).run pins s1 σ H Q I (h s H0 C cl fp)⟩
def WEB (c : Cy cls) (scope : Scope) (e : Expr) (ρ : Rho) (P : D → Prop) : Prop := ∀ s H0 C cl fp, WE (c.blk s H0 scope C cl fp) e ρ P (fun _ => False)
def WTB (c : Cy cls) (scope : Scope) (e : Expr) (ρ : Rho) (P : Bool → Prop) : Prop := ∀ s H0 C cl fp, WT (c.blk s H0 scope C cl fp) e ρ P (fun _ => False)
theorem pas0 {X : Cx} {σ : L2.St} : Pas X σ E0 := fun pins H s e s' I cx => passN pins σ H s e s' I cx
theorem exOk0 : ExOk c R H E0 (fun _ => False) := fun _ _ _ _ _ _ _ z => z.elim
theorem Sl.blk {s : Shared} {H0 : Hp} {scope : Scope} {C : Addr} {cl : List (Str × Addr)} {fp : List Addr} (S : Sl c R H σ ρ) : Sl (c.blk s H0 scope C cl fp) R H σ ρ := ⟨S.ndr, S.ok, S.ok0, S.gr, S.sub, S.len, S.val, S.lst, S.sep, S.ob, S.exc, S.dc, S.sepd⟩
/-- the slots, the list q that is being filled left out -/
theorem Sl.apart {q : Addr} (S : Sl c R H σ ρ) (hq : H q = none) (g : Gr c.W H H') (ok : c.W.ok H') : Sl c (fun a => Nw R H a ∧ a ≠ q) H' σ ρ where
  ndr := fun b m z => nw_dr S.ok S.ndr b m z.1
  ok := ok
  ok0 := S.ok0
  gr := S.gr.trans g
  sub := fun a z => z.1.elim (S.sub a) fun z => .inr (none_back S.ok S.gr z)
  len := S.len
  val := fun i d e => by
    obtain ⟨v, h1, h2⟩ := S.val i d e
    exact ⟨v, h1, h2.mono2 fun a o r e => ⟨⟨.inl r, fun z => by rw [z, hq] at e; cases e⟩, hH_of S.ndr g a o r e⟩⟩
  exc := fun i d e => by
    obtain ⟨v, h1, h2⟩ := S.exc i d e
    exact ⟨v, h1, h2.mono2 fun a o r e => ⟨⟨.inl r, fun z => by rw [z, hq] at e; cases e⟩, hH_of S.ndr g a o r e⟩⟩
  lst := fun i ds e => by
    obtain ⟨a, vs, h1, h2, h3, h4, h5⟩ := S.lst i ds e
    have nd : ¬ c.W.mv a := fun z => S.ok0 _ (c.W.mvb _ z) h3
    exact ⟨a, vs, h1, fun z => z.1.elim h2 (fun z => by rw [h4] at z; cases z), h3, g a _ nd h4, h5.mono2 fun a o r e => ⟨⟨.inl r, fun z => by rw [z, hq] at e; cases e⟩, hH_of S.ndr g a o r e⟩⟩
  sep := S.sep
  ob := fun i a k fs e => by
    obtain ⟨dx, vs, h1, h2, h3, h4, h5⟩ := S.ob i a k fs e
    have nd : ¬ c.W.mv a := fun z => S.ok0 _ (c.W.mvb _ z) h3
    exact ⟨dx, vs, h1, fun z => z.1.elim h2 (fun z => by rw [h4] at z; cases z), h3, g a _ nd h4, h5.mono2 fun a o r e => ⟨⟨.inl r, fun z => by rw [z, hq] at e; cases e⟩, hH_of S.ndr g a o r e⟩⟩
  dc := fun i ds e => by
    obtain ⟨a, vs, h1, h2, h3, h4, h5⟩ := S.dc i ds e
    have nd : ¬ c.W.mv a := fun z => S.ok0 _ (c.W.mvb _ z) h3
    exact ⟨a, vs, h1, fun z => z.1.elim h2 (fun z => by rw [h4] at z; cases z), h3, g a _ nd h4, h5.mono2 fun a o r e => ⟨⟨.inl r, fun z => by rw [z, hq] at e; cases e⟩, hH_of S.ndr g a o r e⟩⟩
  sepd := S.sepd
/-- how a comprehension's target stands: its slots vs, the reading g of a datum -/
def TgOk (c : Cy cls) (g : TG) (vs : List Nat) (G : D → Rho → Rho → Prop) : Prop := ∀ R H σ ρ v d ρ', Sl c R H (wipe σ vs) (wipeR ρ vs) → Dq c.W R H v d → G d (wipeR ρ vs) ρ' → ∀ Q : L2.St → Hp → Prop, (∀ σ2, Sl c R H σ2 ρ' → wipe σ2 vs = wipe σ vs → Q σ2 H) → g v (wipe σ vs) H Q
theorem tg_name {j : Nat} : TgOk c (gName j) [j] (fun d ρ ρ' => ρ' = ρ.set j (some (.val d))) := fun R H σ ρ v d ρ' S q e Q k => by
  subst e
  exact k _ (S.setVal q) (by show ((σ.set j none).set j (some v)).set j none = σ.set j none; rw [List.set_set, List.set_set])
theorem set_comm {α : Type} (l : List α) {i j : Nat} (a b : α) (h : i ≠ j) : (l.set i a).set j b = (l.set j b).set i a := List.set_comm a b h
theorem tg_pair {j k : Nat} (hjk : j ≠ k) : TgOk c (gTup c.X.K 2 (gCons (gName j) (gCons (gName k) gNil))) [j, k] (fun d ρ ρ' => ∃ x y, d = .tup [x, y] ∧ ρ' = (ρ.set j (some (.val x))).set k (some (.val y))) := fun R H σ ρ v d ρ' S q ⟨x, y, e1, e2⟩ Q kk => by
  subst e1 e2
  cases q with
  | tup r e q =>
    cases q with
    | cons q1 q =>
      cases q with
      | cons q2 q =>
        cases q
        refine ⟨_, _, rfl, sq_t e, rfl, _, _, rfl, _, _, rfl, rfl, kk _ ((S.setVal q1).setVal q2) ?_⟩
        show ((((((σ.set k none).set j none).set j _).set k _).set k none).set j none) = (σ.set k none).set j none
        rw [List.set_set, List.set_set, set_comm _ _ _ hjk, List.set_set, List.set_set]
/-- the turns: what has been gathered, by the number of turns -/
def Turns (c : Cy cls) (scope : Scope) (ρ : Rho) (vs : List Nat) (G : D → Rho → Rho → Prop) (elt : Expr) (test : Option Expr) (items : List D) (Acc : Nat → List D → Prop) : Prop :=
  ∀ i d acc, items[i]? = some d → Acc i acc → ∃ ρ', G d (wipeR ρ vs) ρ' ∧ match test with
    | none => WEB c scope elt ρ' (fun y => Acc (i + 1) (acc ++ [y]))
    | some t => WTB c scope t ρ' (fun b => (b = true → WEB c scope elt ρ' (fun y => Acc (i + 1) (acc ++ [y]))) ∧ (b = false → Acc (i + 1) acc))
def ttOf (c : Cy cls) (scope : Scope) : Option Expr → TT
  | none => tYes
  | some t => tUTB c scope t
theorem lc_read {tg iter elt : Expr} {test : Option Expr} {scope : Scope} {vs : List Nat} {g : TG} {G : D → Rho → Rho → Prop} {E : XK} {ex : Xd → Prop} {P : List D → Prop} {Q : VK} (hg : TgOk c g vs G) (S : Sl c R H σ ρ) (p : Pas c.X σ E) (x : ExOk c R H E ex)
    (h : WI c tg iter ρ (fun items => items.length ≤ 1000000 ∧ ∃ Acc : Nat → List D → Prop, Acc 0 [] ∧ Turns c scope ρ vs G elt test items Acc ∧ (∀ acc, Acc items.length acc → P acc)) ex)
    (k : ∀ q H', H q = none → Gr c.W H H' → c.W.ok H' → ∀ ws acc, H' q = some (.lst ws) → DqL c.W (fun a => Nw R H a ∧ a ≠ q) H' ws acc → P acc → Q (.ref q) H') :
    tLc (tUI c tg iter) g (ttOf c scope test) (tUB c scope elt) vs σ H Q := by
  refine ⟨ρ, R, E, _, ex, S, p, x, h, fun J H1 ⟨items, g1, ok1, ⟨Gj, Y, w, hG, hY⟩, hlen, Acc, a0, turn, done⟩ q hq => ?_⟩
  have S1 := S.grow g1 ok1
  have s0 : Same H1 (upd H1 q (.lst [])) := same_upd hq
  have hq0 : H q = none := none_back ok1 g1 hq
  refine lc_it w (fun i H' => ∃ ws acc, H' q = some (.lst ws) ∧ DqL c.W (fun a => Nw (Nw R H) H1 a ∧ a ≠ q) H' ws acc ∧ Acc i acc ∧ acc.length ≤ i ∧ Gr c.W H1 H' ∧ c.W.ok H') ⟨[], [], upd_same, .nil, a0, Nat.le_refl _, Gr.of_same s0, ok_same ok1 s0⟩
    (fun i H' _ ⟨ws, acc, h1, h2, h3, h4, h5, h6⟩ => hG (Nw (Nw R H) H1) H' (Kp.grow S1.ndr h5)) (fun i v Hc H' hi ⟨ws, acc, h1, h2, h3, h4, h5, h6⟩ y => ?_) (fun H' ⟨ws, acc, h1, h2, h3, h4, h5, h6⟩ => ?_)
  · -- a turn
    have nq := S1.apart hq h5 h6
    have kq : Kp (Nw R H) H1 (fun a => Nw (Nw R H) H1 a ∧ a ≠ q) Hc := fun a o r e => ⟨⟨.inl r, fun z => by rw [z, hq] at e; cases e⟩, hH_of S1.ndr h5 a o r e⟩
    obtain ⟨d, hd, sm, qd⟩ := hY i Hc v H' y _ nq.ndr h6 kq
    have ok' := ok_same h6 sm
    have g' : Gr c.W H1 H' := h5.trans (Gr.of_same sm)
    have S2 := S1.apart hq g' ok'
    -- the new item's datum, apart from q
    have qd2 : Dq c.W (fun a => Nw (Nw R H) H1 a ∧ a ≠ q) H' v d := qd.wide fun a z => z.elim id fun z => ⟨.inr (none_back h6 h5 z), fun e => by rw [e, h1] at z; cases z⟩
    obtain ⟨ρ', hρ, ht⟩ := turn i d acc hd h3
    refine hg _ H' σ ρ v d ρ' (S2.wipe vs) qd2 hρ _ fun σ2 S3 hw => ⟨hw, ?_⟩
    have h1' := sm q _ h1
    have h2' : DqL c.W (fun a => Nw (Nw R H) H1 a ∧ a ≠ q) H' ws acc := h2.mono (fun _ r => r) fun a o _ e => sm a o e
    -- behind an element
    have elt_ : ∀ H3, Gr c.W H' H3 → c.W.ok H3 → Sl c (Nw (fun a => Nw (Nw R H) H1 a ∧ a ≠ q) H') H3 σ2 ρ' → WEB c scope elt ρ' (fun y => Acc (i + 1) (acc ++ [y])) →
        tUB c scope elt σ2 H3 fun y H4 => ∃ acc', H4 q = some (.lst acc') ∧ acc'.length < sizeLine ∧ ∃ ws acc, (upd H4 q (.lst (acc' ++ [y]))) q = some (.lst ws) ∧ DqL c.W (fun a => Nw (Nw R H) H1 a ∧ a ≠ q) (upd H4 q (.lst (acc' ++ [y]))) ws acc ∧ Acc (i + 1) acc ∧ acc.length ≤ i + 1 ∧ Gr c.W H1 (upd H4 q (.lst (acc' ++ [y]))) ∧ c.W.ok (upd H4 q (.lst (acc' ++ [y]))) := fun H3 g3 ok3 S4 we s0 H0 C cl fp => by
      have nqd : ¬ c.W.mv q := fun z => c.W.some H1 ok1 _ (c.W.mvb _ z) hq
      refine tU.mk (we s0 H0 C cl fp) S4.blk pas0 exOk0 fun y H4 ⟨dy, g4, ok4, q4, hA⟩ => ?_
      have e4 := g4 q _ nqd (g3 q _ nqd h1')
      have hn4 : ∀ a o, (Nw (Nw R H) H1 a ∧ a ≠ q) → H4 a = some o → upd H4 q (.lst (ws ++ [y])) a = some o := fun a o r e => by rw [upd_ne r.2]; exact e
      have nb : ∀ a, c.W.base a → a ≠ q := fun a b z => c.W.some H1 ok1 _ b (z ▸ hq)
      refine ⟨ws, e4, by rw [h2.length]; rw [sizeLine_eq]; omega, ws ++ [y], acc ++ [dy], upd_same, (DqL.append ((h2'.mono (fun _ r => r) fun a o r e => ?_).mono (fun _ r => r) hn4) (.cons ((q4.wide fun a z => ?_).mono (fun _ r => r) hn4) .nil)), hA, by rw [List.length_append, List.length_singleton]; omega, fun a o n e => ?_, c.W.keep H4 _ ok4 fun a b => upd_ne (nb a b)⟩
      · have nd : ¬ c.W.mv a := fun z => S2.ndr a z r
        exact g4 a o nd (g3 a o nd e)
      · -- the region of the element
        have key : ∀ {a : Addr} {Hx : Hp}, Gr c.W H1 Hx → c.W.ok Hx → Hx q ≠ none → Hx a = none → Nw (Nw R H) H1 a ∧ a ≠ q := fun {a Hx} gx okx hne z => ⟨.inr (none_back okx gx z), fun e => hne (e ▸ z)⟩
        rcases z with (z | z) | z
        · exact z
        · exact key g' ok' (by rw [h1']; intro z; cases z) z
        · exact key (g'.trans g3) ok3 (by rw [g3 q _ nqd h1']; intro z; cases z) z
      · rw [upd_ne (show a ≠ q from fun z => by rw [z, hq] at e; cases e)]
        exact g4 a o n (g3 a o n (g' a o n e))
    cases test with
    | none =>
      have S4 : Sl c (Nw (fun a => Nw (Nw R H) H1 a ∧ a ≠ q) H') H' σ2 ρ' := S3.grow Gr.refl S3.ok
      have z := elt_ H' Gr.refl ok' S4 ht
      unfold ttOf tYes
      exact iteT z
    | some t =>
      show tUTB c scope t σ2 H' _
      intro s0 H0 C cl fp
      refine tUT.mk (ht s0 H0 C cl fp) S3.blk pas0 exOk0 fun b H3 ⟨g3, ok3, hb1, hb2⟩ => ?_
      cases b with
      | true =>
        refine iteT ?_
        exact elt_ H3 g3 ok3 (S3.grow g3 ok3) (hb1 rfl)
      | false =>
        refine iteF ?_
        have nqd : ¬ c.W.mv q := fun z => c.W.some H1 ok1 _ (c.W.mvb _ z) hq
        exact ⟨ws, acc, g3 q _ nqd h1', h2'.mono (fun _ r => r) fun a o r e => g3 a o (fun z => S2.ndr a z r) e, hb2 rfl, Nat.le_succ_of_le h4, g'.trans g3, ok3⟩
  · exact k q H' hq0 (g1.trans h5) h6 ws acc h1 (h2.wide fun a z => ⟨nw_nw ok1 g1 a z.1, z.2⟩) (done acc h3)
end
end Vl
end
section
set_option maxHeartbeats 4000000
namespace Vl
open PySem PySem.Spec PyProof.Rows L2
variable {cls : Nat → Addr}
section
variable {c : Cy cls} {R : Addr → Prop} {H H' : Hp} {σ : L2.St} {ρ : Rho}
/-! ### comprehensions as expressions, given to a name -/
abbrev G1 (j : Nat) : D → Rho → Rho → Prop := fun d ρ ρ' => ρ' = ρ.set j (some (.val d))
abbrev G2 (j k : Nat) : D → Rho → Rho → Prop := fun d ρ ρ' => ∃ x y, d = .tup [x, y] ∧ ρ' = (ρ.set j (some (.val x))).set k (some (.val y))
/-- what one shows of a comprehension -/
def LC (c : Cy cls) (tg iter elt : Expr) (test : Option Expr) (scope : Scope) (ρ : Rho) (vs : List Nat) (G : D → Rho → Rho → Prop) (P : List D → Prop) (ex : Xd → Prop) : Prop :=
  WI c tg iter ρ (fun items => items.length ≤ 1000000 ∧ ∃ Acc : Nat → List D → Prop, Acc 0 [] ∧ Turns c scope ρ vs G elt test items Acc ∧ (∀ acc, Acc items.length acc → P acc)) ex
def ifsOf : Option Expr → List Expr
  | none => []
  | some t => [t]
theorem pts_of {scope : Scope} {test : Option Expr} (s : Shared) (H : Hp) (C : Addr) (cl : List (Str × Addr)) (fp : List Addr) : PTs (c.X.blk s H scope (compEnvC scope cl C c.X.env) fp) (ifsOf test) (ttOf c scope test) := by
  cases test with
  | none => exact pts_nil
  | some t => exact pts_one (ptUB scope t s H C cl fp)
theorem we_lcG {tg iter elt : Expr} {test : Option Expr} {scope : Scope} {pos : Pos} {own : List (Str × Nat)} {g : TG} {G : D → Rho → Rho → Prop} {P : D → Prop} {ex : Xd → Prop} (hg : TgOk c g (own.map (·.2)) G)
    (hpg : ∀ (s : Shared) (H : Hp) (C : Addr) (cl : List (Str × Addr)) (fp : List Addr), PG (c.X.blk s H scope (compEnvC scope cl C c.X.env) fp) tg g) (h : LC c tg iter elt test scope ρ (own.map (·.2)) G (fun xs => P (.lst xs)) ex)
    (hc : c.X.calm = true) (hN : c.X.N.Nodup) (ok : BlkOk c.X.N c.X.env.scope scope own) (hs : ∀ x, foldedSetIterable iter c.X.env x = pure x) : WE c (.ListComp elt [⟨tg, iter, ifsOf test, 0⟩] scope pos) ρ P ex :=
  we_of (pe_lc hc hN (piU c tg iter) ok hpg (fun s H C cl fp => pts_of s H C cl fp) (peUB scope elt) hs) fun σ H R E S p x =>
    lc_read hg S p x h fun q H' hq gg ok' ws acc hw qq hp => ⟨.lst acc, gg, ok', .lst (.inr hq) hw (qq.wide fun a z => z.1), hp⟩
theorem ws_lcG {i : Nat} {y : Str} {py spos : Pos} {tg iter elt : Expr} {test : Option Expr} {scope : Scope} {pos : Pos} {own : List (Str × Nat)} {g : TG} {G : D → Rho → Rho → Prop} {p : Po} (hg : TgOk c g (own.map (·.2)) G)
    (hpg : ∀ (s : Shared) (H : Hp) (C : Addr) (cl : List (Str × Addr)) (fp : List Addr), PG (c.X.blk s H scope (compEnvC scope cl C c.X.env) fp) tg g) (h : LC c tg iter elt test scope ρ (own.map (·.2)) G (fun xs => p.nx (ρ.set i (some (.val (.lst xs)))) ∨ p.nx (ρ.set i (some (.lst xs)))) (p.ex ρ))
    (hc : c.X.calm = true) (hN : c.X.N.Nodup) (hy : c.X.N[i]? = some y) (hyl : c.X.env.scope.names.lookup y = some .local) (hsw : swapsWith (.ListComp elt [⟨tg, iter, ifsOf test, 0⟩] scope pos) (some (.Name y py)) spos.line c.X.env = pure true)
    (ok : BlkOk c.X.N c.X.env.scope scope own) (hs : ∀ x, foldedSetIterable iter c.X.env x = pure x) : WS c (.Assign [.Name y py] (.ListComp elt [⟨tg, iter, ifsOf test, 0⟩] scope pos) spos) ρ p :=
  ws_of (ps_setLc hc hN hy hyl hsw (piU c tg iter) ok hpg (fun s H C cl fp => pts_of s H C cl fp) (peUB scope elt) hs) fun σ H R Ds E S ps en x =>
    lc_read hg S (ps.at σ) (x.at S) h fun q H' hq gg ok' ws acc hw qq hp => by
      rcases hp with hp | hp
      · exact en.nx _ H' _ _ ((S.grow gg ok').setVal (.lst (.inr hq) hw (qq.wide fun a z => z.1))) (Kp.grow S.ndr gg) hp
      · -- nobody else has it
        have h0 : c.H0 q = none := none_back S.ok S.gr hq
        have S1 := S.apart hq gg ok'
        refine en.nx (fun a => Nw R H a ∧ a ≠ q) H' _ _ ⟨S1.ndr, S1.ok, S1.ok0, S1.gr, S1.sub, by simp [S1.len], fun j e h => ?_, fun j e h => ?_, fun j k ds' es a hjk g1 g2 g3 => ?_, fun j a k fs h => ?_, fun j e h => ?_, fun j e h => ?_, fun j k q1 q2 a hjk g1 g2 g3 => ?_⟩ (fun a o r e => ⟨⟨.inl r, fun z => by rw [z, hq] at e; cases e⟩, hH_of S.ndr gg a o r e⟩) hp
        · by_cases hj : i = j
          · subst hj
            have z := get_set_self h
            cases z
          · rw [List.getElem?_set_ne hj] at h ⊢
            exact S1.val j e h
        · by_cases hj : i = j
          · subst hj
            have lt := set_lt h
            have z := get_set_self h
            cases z
            exact ⟨q, ws, by rw [List.getElem?_set_self (by rw [S1.len]; exact lt)], fun z => z.2 rfl, h0, hw, qq⟩
          · rw [List.getElem?_set_ne hj] at h ⊢
            exact S1.lst j e h
        · have key : ∀ {j : Nat} {es : List D} {b : Addr}, ρ[j]? = some (some (.lst es)) → σ[j]? = some (some (.ref b)) → b ≠ q := fun {j es b} h1 h2 => by
            obtain ⟨a, ws, e1, e2, e3, e4, e5⟩ := S.lst j es h1
            rw [e1] at h2
            cases h2
            intro z
            rw [z, hq] at e4
            cases e4
          by_cases hj : i = j
          · subst hj
            have lt := set_lt g3
            have z := get_set_self g3
            cases z
            rw [List.getElem?_set_ne hjk] at g2 ⊢
            exact fun z => key g2 z rfl
          · by_cases hk : i = k
            · subst hk
              rw [List.getElem?_set_ne hj] at g1 g3
              intro z
              have z := get_set_self z
              cases z
              exact key g1 g3 rfl
            · rw [List.getElem?_set_ne hj] at g1 g3
              rw [List.getElem?_set_ne hk] at g2 ⊢
              exact S1.sep j k ds' es a hjk g1 g2 g3
        · by_cases hj : i = j
          · subst hj
            have z := get_set_self h
            cases z
          · rw [List.getElem?_set_ne hj] at h ⊢
            exact S1.ob j a k fs h
        · by_cases hj : i = j
          · subst hj
            have z := get_set_self h
            cases z
          · rw [List.getElem?_set_ne hj] at h ⊢
            exact S1.exc j e h
        · obtain ⟨hj, h⟩ := slot_set (by simp) h
          rw [List.getElem?_set_ne hj]
          exact S1.dc j e h
        · obtain ⟨hj, g1⟩ := slot_set (by simp) g1
          obtain ⟨hk, g2⟩ := slot_set (by simp) g2
          rw [List.getElem?_set_ne hj] at g3
          rw [List.getElem?_set_ne hk]
          exact S1.sepd j k q1 q2 a hjk g1 g2 g3
/-- [elt for x in iter] -/
theorem we_lc (j : Nat) {x : Str} {xp : Pos} {iter elt : Expr} {scope : Scope} {pos : Pos} {P : D → Prop} {ex : Xd → Prop} (hN : c.X.N.Nodup) (h : LC c (.Name x xp) iter elt none scope ρ [j] (G1 j) (fun xs => P (.lst xs)) ex) (hc : c.X.calm = true := by rfl)
    (hpg : ∀ (s : Shared) (H : Hp) (C : Addr) (cl : List (Str × Addr)) (fp : List Addr), PG (c.X.blk s H scope (compEnvC scope cl C c.X.env) fp) (.Name x xp) (gName j) := by exact fun _ _ _ _ _ => pg_name (by assumption) rfl (Or.inl rfl))
    (ok : BlkOk c.X.N c.X.env.scope scope [(x, j)] := by exact blkOk_by (by kernel_rfl)) (hs : ∀ x, foldedSetIterable iter c.X.env x = pure x := by intro _; rfl) : WE c (.ListComp elt [⟨.Name x xp, iter, [], 0⟩] scope pos) ρ P ex :=
  we_lcG (own := [(x, j)]) (test := none) tg_name hpg h hc hN ok hs
/-- y = [elt for x in iter] -/
theorem ws_lc (i j : Nat) {x y : Str} {xp py spos : Pos} {iter elt : Expr} {scope : Scope} {pos : Pos} {p : Po} (hN : c.X.N.Nodup) (h : LC c (.Name x xp) iter elt none scope ρ [j] (G1 j) (fun xs => p.nx (ρ.set i (some (.val (.lst xs)))) ∨ p.nx (ρ.set i (some (.lst xs)))) (p.ex ρ)) (hc : c.X.calm = true := by rfl) (hy : c.X.N[i]? = some y := by rfl)
    (hyl : c.X.env.scope.names.lookup y = some .local := by rfl) (hsw : swapsWith (.ListComp elt [⟨.Name x xp, iter, [], 0⟩] scope pos) (some (.Name y py)) spos.line c.X.env = pure true := by exact sw_true rfl rfl rfl (by kernel_rfl))
    (hpg : ∀ (s : Shared) (H : Hp) (C : Addr) (cl : List (Str × Addr)) (fp : List Addr), PG (c.X.blk s H scope (compEnvC scope cl C c.X.env) fp) (.Name x xp) (gName j) := by exact fun _ _ _ _ _ => pg_name (by assumption) rfl (Or.inl rfl))
    (ok : BlkOk c.X.N c.X.env.scope scope [(x, j)] := by exact blkOk_by (by kernel_rfl)) (hs : ∀ x, foldedSetIterable iter c.X.env x = pure x := by intro _; rfl) : WS c (.Assign [.Name y py] (.ListComp elt [⟨.Name x xp, iter, [], 0⟩] scope pos) spos) ρ p :=
  ws_lcG (own := [(x, j)]) (test := none) tg_name hpg h hc hN hy hyl hsw ok hs
theorem ws_lcIf (i j : Nat) {x y : Str} {xp py spos : Pos} {iter elt t : Expr} {scope : Scope} {pos : Pos} {p : Po} (hN : c.X.N.Nodup) (h : LC c (.Name x xp) iter elt (some t) scope ρ [j] (G1 j) (fun xs => p.nx (ρ.set i (some (.val (.lst xs)))) ∨ p.nx (ρ.set i (some (.lst xs)))) (p.ex ρ)) (hc : c.X.calm = true := by rfl) (hy : c.X.N[i]? = some y := by rfl)
    (hyl : c.X.env.scope.names.lookup y = some .local := by rfl) (hsw : swapsWith (.ListComp elt [⟨.Name x xp, iter, [t], 0⟩] scope pos) (some (.Name y py)) spos.line c.X.env = pure true := by exact sw_true rfl rfl rfl (by kernel_rfl))
    (hpg : ∀ (s : Shared) (H : Hp) (C : Addr) (cl : List (Str × Addr)) (fp : List Addr), PG (c.X.blk s H scope (compEnvC scope cl C c.X.env) fp) (.Name x xp) (gName j) := by exact fun _ _ _ _ _ => pg_name (by assumption) rfl (Or.inl rfl))
    (ok : BlkOk c.X.N c.X.env.scope scope [(x, j)] := by exact blkOk_by (by kernel_rfl)) (hs : ∀ x, foldedSetIterable iter c.X.env x = pure x := by intro _; rfl) : WS c (.Assign [.Name y py] (.ListComp elt [⟨.Name x xp, iter, [t], 0⟩] scope pos) spos) ρ p :=
  ws_lcG (own := [(x, j)]) (test := some t) tg_name hpg h hc hN hy hyl hsw ok hs
/-- the plain case: each item gives one datum -/
theorem LC.map {tg iter elt : Expr} {scope : Scope} {vs : List Nat} {G : D → Rho → Rho → Prop} {P : List D → Prop} {ex : Xd → Prop} (h : WI c tg iter ρ (fun items => items.length ≤ 1000000 ∧ ∃ f : Nat → D → D → Prop, (∀ i d, items[i]? = some d → ∃ ρ', G d (wipeR ρ vs) ρ' ∧ WEB c scope elt ρ' (fun y => f i d y)) ∧
      ∀ acc, acc.length = items.length → (∀ i d y, items[i]? = some d → acc[i]? = some y → f i d y) → P acc) ex) : LC c tg iter elt none scope ρ vs G P ex := by
  refine ⟨fun pins s σ H R E I S p x => ?_⟩
  refine thn (h.run pins s σ H R E I S p x) fun v s1 q => thn q fun itv s2 z => ?_
  obtain ⟨it, fp, tn, J, H2, e, I2, T, st2, f2, items, g, ok, w, hl, f, hf, hp⟩ := z
  refine ⟨it, fp, tn, J, H2, e, I2, T, st2, f2, items, g, ok, w, hl, fun i acc => acc.length = i ∧ ∀ k d y, items[k]? = some d → acc[k]? = some y → f k d y, ⟨rfl, fun k d y _ h => by simp at h⟩, fun i d acc hd ⟨h1, h2⟩ => ?_, fun acc ⟨h1, h2⟩ => hp acc h1 h2⟩
  obtain ⟨ρ', hG, we⟩ := hf i d hd
  refine ⟨ρ', hG, fun s0 H0 C cl fp => WE.mono (we s0 H0 C cl fp) fun y hy => ⟨by rw [List.length_append, List.length_singleton, h1], fun k d' y' hk hy' => ?_⟩⟩
  by_cases hki : k < acc.length
  · rw [List.getElem?_append_left hki] at hy'
    exact h2 k d' y' hk hy'
  · rw [List.getElem?_append_right (by omega)] at hy'
    have e0 : k = i := by
      have z := (List.getElem?_eq_some_iff.mp hy').1
      simp at z
      omega
    subst e0
    rw [h1, Nat.sub_self] at hy'
    rw [hd] at hk
    cases hk
    cases hy'
    exact hy
/-! ### names of the module -/
theorem we_glob {x : Str} {u : Value} {v : V} {d : D} {pos : Pos} {P : D → Prop} {ex : Xd → Prop} (hm : c.X.mg x = some u) (h : P d) (hq : ∀ R H, Dq c.W R H v d) (r : RelV v u) (hg : Gl c.X x := by rfl) (hd : (x == ("__debug__" : Str)) = false := by decide) : WE c (.Name x pos) ρ P ex :=
  we_c (pe_glob hg hm r hd) hq h
theorem we_gint {x : Str} {i : Int} {t : Tok} {pos : Pos} {P : D → Prop} {ex : Xd → Prop} (hm : c.X.mg x = some (.int i t)) (h : P (.int i)) (hg : Gl c.X x := by rfl) (hd : (x == ("__debug__" : Str)) = false := by decide) : WE c (.Name x pos) ρ P ex :=
  we_glob hm h (fun _ _ => .int i) ⟨t, rfl⟩ hg hd
theorem we_gstr {x : Str} {i : Str} {t : Tok} {pos : Pos} {P : D → Prop} {ex : Xd → Prop} (hm : c.X.mg x = some (.str i t)) (h : P (.str i)) (hg : Gl c.X x := by rfl) (hd : (x == ("__debug__" : Str)) = false := by decide) : WE c (.Name x pos) ρ P ex :=
  we_glob hm h (fun _ _ => .str i) ⟨t, rfl⟩ hg hd
theorem we_gcl {x : Str} {k : Nat} {pos : Pos} {P : D → Prop} {ex : Xd → Prop} (hm : c.X.mg x = some (.ref (cls k))) (h : P (.cl k)) (hg : Gl c.X x := by rfl) (hd : (x == ("__debug__" : Str)) = false := by decide) : WE c (.Name x pos) ρ P ex :=
  we_glob (v := .ref (cls k)) hm h (fun _ _ => .cl k) rfl hg hd
theorem we_ty {n : String} {pos : Pos} {P : D → Prop} {ex : Xd → Prop} (hm : c.X.mg (Str.ofString n) = none) (h : P (.ty n)) (hv : bootBuiltins (Str.ofString n) = some (.type n) := by decide +kernel) (hg : Gl c.X (Str.ofString n) := by rfl) (hn : Str.ofString n ≠ "__name__" := by decide) (hd : (Str.ofString n == ("__debug__" : Str)) = false := by decide) : WE c (.Name (Str.ofString n) pos) ρ P ex :=
  we_c (pe_bltn (v := .ty n) hg hm hv rfl hn hd) (fun _ _ => .ty n) h
/-! ### chains, comparisons of data -/
theorem we_chain {op op' : CmpOp} {a b e : Expr} {pos : Pos} {r r' : R2} {F F' : D → D → (D → Prop) → Prop} {P : D → Prop} {ex : Xd → Prop} (ho : OpR c.X (compareOp op) r) (ho' : OpR c.X (compareOp op') r') (hF : OpD c r F) (hF' : OpD c r' F')
    (h : WE c a ρ (fun x => WE c b ρ (fun y => F x y (fun z => ∃ k, z = .bl k ∧ (k = true → WE c e ρ (fun w => F' y w P) ex) ∧ (k = false → P (.bl false)))) ex) ex) (hm : lastMarks [op, op'] [b, e] = false := by with_unfolding_all rfl) : WE c (.Compare a [op, op'] [b, e] pos) ρ P ex :=
  we_of (pe_chain ho ho' (peU c a) (peU c b) (peU c e) hm) fun σ H R E S p x => tU.mk h S p x fun vx H1 ⟨dx, g1, ok1, q1, w1⟩ => tU.mk w1 (S.grow g1 ok1) p (x.grow g1 ok1) fun vy H2 ⟨dy, g2, ok2, q2, f2⟩ =>
    have S2 := (S.grow g1 ok1).grow g2 ok2
    hF _ _ _ _ _ _ _ S2.ndr ok2 (q1.grow (S.grow g1 ok1).ndr g2) q2 f2 _ fun vz H3 ⟨dz, g3, ok3, q3, k, e3, h1, h2⟩ => by
      subst e3
      cases q3
      refine ⟨k, rfl, ?_⟩
      have S3 := S2.grow g3 ok3
      cases k with
      | false => exact iteF ⟨_, (g1.trans g2).trans g3, ok3, .bl false, h2 rfl⟩
      | true =>
        refine iteT (tU.mk (h1 rfl) S3 p (((x.grow g1 ok1).grow g2 ok2).grow g3 ok3) fun vw H4 ⟨dw, g4, ok4, q4, f4⟩ => ?_)
        exact hF' _ _ _ _ _ _ _ (S3.grow g4 ok4).ndr ok4 ((q2.grow S2.ndr g3).grow S3.ndr g4) q4 f4 _ fun v5 H5 f => (((f.back g4 ok4).back g3 ok3).back g2 ok2).back g1 ok1
theorem wt_chain {op op' : CmpOp} {a b e : Expr} {pos : Pos} {r r' : R2} {F F' : D → D → (D → Prop) → Prop} {P : Bool → Prop} {ex : Xd → Prop} (ho : OpR c.X (compareOp op) r) (ho' : OpR c.X (compareOp op') r') (hF : OpD c r F) (hF' : OpD c r' F')
    (h : WE c a ρ (fun x => WE c b ρ (fun y => F x y (fun z => ∃ k, z = .bl k ∧ (k = true → WE c e ρ (fun w => F' y w (fun z => ∃ k, z = .bl k ∧ P k)) ex) ∧ (k = false → P false))) ex) ex) (hm : lastMarks [op, op'] [b, e] = false := by with_unfolding_all rfl) : WT c (.Compare a [op, op'] [b, e] pos) ρ P ex :=
  wt_of (pt_chain ho ho' (peU c a) (peU c b) (peU c e) hm) fun σ H R E S p x => tU.mk h S p x fun vx H1 ⟨dx, g1, ok1, q1, w1⟩ => tU.mk w1 (S.grow g1 ok1) p (x.grow g1 ok1) fun vy H2 ⟨dy, g2, ok2, q2, f2⟩ =>
    have S2 := (S.grow g1 ok1).grow g2 ok2
    hF _ _ _ _ _ _ _ S2.ndr ok2 (q1.grow (S.grow g1 ok1).ndr g2) q2 f2 _ fun vz H3 ⟨dz, g3, ok3, q3, k, e3, h1, h2⟩ => by
      subst e3
      cases q3
      refine ⟨k, rfl, ?_⟩
      have S3 := S2.grow g3 ok3
      cases k with
      | false => exact iteF ⟨false, rfl, (g1.trans g2).trans g3, ok3, h2 rfl⟩
      | true =>
        refine iteT (tU.mk (h1 rfl) S3 p (((x.grow g1 ok1).grow g2 ok2).grow g3 ok3) fun vw H4 ⟨dw, g4, ok4, q4, f4⟩ => ?_)
        refine hF' _ _ _ _ _ _ _ (S3.grow g4 ok4).ndr ok4 ((q2.grow S2.ndr g3).grow S3.ndr g4) q4 f4 _ fun v5 H5 f => ?_
        obtain ⟨d5, g5, ok5, q5, k5, e5, h5⟩ := (((f.back g4 ok4).back g3 ok3).back g2 ok2).back g1 ok1
        subst e5
        cases q5
        exact ⟨k5, rfl, g5, ok5, h5⟩
abbrev FB (f : Int → Int → Bool) : D → D → (D → Prop) → Prop := fun x y P => ∃ i j, x = .int i ∧ y = .int j ∧ P (.bl (f i j))
theorem opd_B (f : Int → Int → Bool) : OpD c (rI0 fun i j => .bl (f i j)) (FB f) := opd_I0 _ (fun i j => .bl (f i j)) fun _ _ _ _ => .bl _
/-- scalars -/
def scV : D → Option V
  | .non => some .non
  | .bl b => some (.bl b)
  | .int i => some (.int i)
  | .str x => some (.str x)
  | _ => none
theorem scV_dq {W : Wd cls} {v w : V} {d : D} (q : Dq W R H v d) (h : scV d = some w) : v = w := by
  cases q <;> simp only [scV] at h <;> first | exact Option.some.inj h | cases h
abbrev FEq : D → D → (D → Prop) → Prop := fun x y P => ∃ a b, scV x = some a ∧ scV y = some b ∧ scal a b = true ∧ P (.bl (decide (a = b)))
abbrev FNe : D → D → (D → Prop) → Prop := fun x y P => ∃ a b, scV x = some a ∧ scV y = some b ∧ scal a b = true ∧ P (.bl (!decide (a = b)))
theorem opd_eq : OpD c rEq FEq := fun R H vx vy x y P nd ok qx qy f Q k => by
  obtain ⟨a, b, h1, h2, h3, h⟩ := f
  have e1 := scV_dq qx h1
  have e2 := scV_dq qy h2
  subst e1 e2
  exact ⟨h3, k _ _ (Fin.here ok nd (.bl _) h)⟩
theorem opd_ne : OpD c rNe FNe := fun R H vx vy x y P nd ok qx qy f Q k => by
  obtain ⟨a, b, h1, h2, h3, h⟩ := f
  have e1 := scV_dq qx h1
  have e2 := scV_dq qy h2
  subst e1 e2
  exact ⟨h3, k _ _ (Fin.here ok nd (.bl _) h)⟩
def isNon : D → Bool
  | .non => true
  | _ => false
theorem isNon_dq {W : Wd cls} {v : V} {d : D} (q : Dq W R H v d) : decide (v = .non) = isNon d := by
  cases q <;> simp [isNon]
theorem opd_isN : OpD c (fun x y H Q => y = .non ∧ Q (.bl (decide (x = .non))) H) (fun x y P => y = .non ∧ P (.bl (isNon x))) := fun R H vx vy x y P nd ok qx qy f Q k => by
  obtain ⟨rfl, h⟩ := f
  cases qy
  refine ⟨rfl, k _ _ (Fin.here ok nd (.bl _) ?_)⟩
  rw [isNon_dq qx]
  exact h
theorem opd_notN : OpD c (fun x y H Q => y = .non ∧ Q (.bl (!decide (x = .non))) H) (fun x y P => y = .non ∧ P (.bl (!isNon x))) := fun R H vx vy x y P nd ok qx qy f Q k => by
  obtain ⟨rfl, h⟩ := f
  cases qy
  refine ⟨rfl, k _ _ (Fin.here ok nd (.bl _) ?_)⟩
  rw [isNon_dq qx]
  exact h
/-! ### isinstance -/
/-- what the written part says of a class whose instances are asked for their class -/
structure InsF (K : PySem.W.Frag) (C : Addr) : Prop where
  cl : Cls K C
  ha : PySem.W.findIn K (.ref C) "__class__" = some (some (.builtin "object.__class__"))
  hn : PySem.W.specialIn K (.builtin "object.__class__") "__get__" = some (some (.builtin "getset_descriptor.__get__"))
  ht : PySem.W.takesIn K (.builtin "object.__class__") = some true
  hm : PySem.W.mroIn K C (.type "object") = some true
/-- a datum's class -/
def tagV (cls : Nat → Addr) : D → Option Value
  | .non => some (.type "NoneType")
  | .bl _ => some (.type "bool")
  | .int _ => some (.type "int")
  | .str _ => some (.type "str")
  | .lst _ => some (.type "list")
  | .tup _ => some (.type "tuple")
  | .obj k _ => some (.ref (cls k))
  | _ => none
/-- a class as a datum -/
def clV (cls : Nat → Addr) : D → Option Value
  | .ty n => some (.type n)
  | .cl k => some (.ref (cls k))
  | _ => none
theorem tag_ok {W : Wd cls} {K : PySem.W.Frag} {v : V} {d : D} {t : Value} (q : Dq W R H v d) (h : tagV cls d = some t) (hi : ∀ k fs, d = .obj k fs → InsF K (cls k)) : TyX K H v t := by
  cases q with
  | non => cases h; exact .base .non
  | bl b => cases h; exact .base (.bl b)
  | int i => cases h; exact .base (.int i)
  | str x => cases h; exact .base (.str x)
  | lst r e q => cases h; exact .base (.lst e)
  | tup r e q => cases h; exact .base (.tup e)
  | obj r e q =>
    cases h
    obtain ⟨h1, h2, h3, h4, h5⟩ := hi _ _ rfl
    exact .base (.ins e h1 h2 h3 h4 h5)
  | ty n => cases h
  | cl k => cases h
  | own => cases h
  | dic => cases h
  | dit => cases h
  | adr => cases h
theorem clV_ok {W : Wd cls} {v : V} {d : D} {t : Value} (q : Dq W R H v d) (h : clV cls d = some t) : ClsV v t := by
  cases q with
  | ty n => cases h; exact .ty n
  | cl k => cases h; exact .own _
  | _ => cases h
theorem clVs_ok {W : Wd cls} : ∀ {vs : List V} {ds : List D} {us : List Value}, DqL W R H vs ds → ds.mapM (clV cls) = some us → Paired ClsV vs us
  | _, _, us, .nil, h => by cases h; exact .nil
  | _, _, us, .cons (d := d) (ds := ds) q r, h => by
    rw [List.mapM_cons] at h
    cases e1 : clV cls d with
    | none => rw [e1] at h; cases h
    | some t =>
      rw [e1] at h
      cases e2 : ds.mapM (clV cls) with
      | none => rw [e2] at h; cases h
      | some ts =>
        rw [e2] at h
        cases h
        exact .cons (clV_ok q e1) (clVs_ok r e2)
theorem lsd_isi : LsD c (rIsi c.X.K) (fun ds P => ∃ d k t u b, ds = [d, k] ∧ tagV cls d = some t ∧ clV cls k = some u ∧ (∀ k fs, d = .obj k fs → InsF c.X.K (cls k)) ∧ PySem.W.kitOne c.X.K t u = some b ∧ P (.bl b)) := fun R H vs ds P nd ok q f Q kk => by
  obtain ⟨d, k, t, u, b, rfl, h1, h2, h3, h4, h⟩ := f
  cases q with
  | cons q1 q =>
    cases q with
    | cons q2 q =>
      cases q
      exact ⟨_, _, t, u, b, rfl, clV_ok q2 h2, tag_ok q1 h1 h3, h4, kk _ _ (Fin.here ok nd (.bl _) h)⟩
theorem lsd_isiT : LsD c (rIsiT c.X.K) (fun ds P => ∃ d ks t us b, ds = [d, .tup ks] ∧ tagV cls d = some t ∧ ks.mapM (clV cls) = some us ∧ (∀ k fs, d = .obj k fs → InsF c.X.K (cls k)) ∧ PySem.W.kitAny c.X.K t us = some b ∧ P (.bl b)) := fun R H vs ds P nd ok q f Q kk => by
  obtain ⟨d, ks, t, us, b, rfl, h1, h2, h3, h4, h⟩ := f
  cases q with
  | cons q1 q =>
    cases q with
    | cons q2 q =>
      cases q
      cases q2 with
      | tup r e q2 => exact ⟨_, _, _, t, us, b, rfl, e, clVs_ok q2 h2, tag_ok q1 h1 h3, h4, kk _ _ (Fin.here ok nd (.bl _) h)⟩
end
end Vl
end
section
set_option maxHeartbeats 4000000
namespace Vl
open PySem PySem.Spec PyProof.Rows L2
variable {cls : Nat → Addr}
/-- built-in names that the module leaves as they are -/
def bltNames : List Str := ["int", "bool", "str", "list", "tuple", "len", "isinstance", "range", "all", "any", "sum", "abs", "sorted", "zip", "enumerate", "ValueError", "min", "max", "dict", "set", "repr"]
abbrev NB (mg : Str → Option Value) : Prop := ∀ x : Str, x ∈ bltNames → mg x = none
/-! what the built-in names are, once -/
theorem bt_isinstance : bootBuiltins "isinstance" = some (.builtin "isinstance") := by decide +kernel
theorem bt_len : bootBuiltins "len" = some (.builtin "len") := by decide +kernel
theorem bt_all : bootBuiltins "all" = some (.builtin "all") := by decide +kernel
theorem bt_sum : bootBuiltins "sum" = some (.builtin "sum") := by decide +kernel
theorem bt_abs : bootBuiltins "abs" = some (.builtin "abs") := by decide +kernel
theorem bt_max : bootBuiltins "max" = some (.builtin "max") := by decide +kernel
theorem bt_min : bootBuiltins "min" = some (.builtin "min") := by decide +kernel
theorem bt_int : bootBuiltins "int" = some (.type "int") := by decide +kernel
theorem bt_tuple : bootBuiltins "tuple" = some (.type "tuple") := by decide +kernel
theorem bl_isinstance : ("isinstance" : Str) ∈ bltNames := by decide
theorem bl_len : ("len" : Str) ∈ bltNames := by decide
theorem bl_all : ("all" : Str) ∈ bltNames := by decide
theorem bl_sum : ("sum" : Str) ∈ bltNames := by decide
theorem bl_abs : ("abs" : Str) ∈ bltNames := by decide
theorem bl_max : ("max" : Str) ∈ bltNames := by decide
theorem bl_min : ("min" : Str) ∈ bltNames := by decide
theorem bl_int : ("int" : Str) ∈ bltNames := by decide
theorem bl_tuple : ("tuple" : Str) ∈ bltNames := by decide
abbrev Five (n : String) : Prop := n = "int" ∨ n = "bool" ∨ n = "str" ∨ n = "list" ∨ n = "tuple"
theorem bt_ty {n : String} (hn : Five n) : bootBuiltins (Str.ofString n) = some (.type n) := by
  rcases hn with rfl | rfl | rfl | rfl | rfl <;> decide +kernel
theorem bl_ty {n : String} (hn : Five n) : Str.ofString n ∈ bltNames := by
  rcases hn with rfl | rfl | rfl | rfl | rfl <;> decide +kernel
theorem nn_ty {n : String} (hn : Five n) : Str.ofString n ≠ "__name__" := by
  rcases hn with rfl | rfl | rfl | rfl | rfl <;> decide +kernel
theorem nd_ty {n : String} (hn : Five n) : (Str.ofString n == ("__debug__" : Str)) = false := by
  rcases hn with rfl | rfl | rfl | rfl | rfl <;> decide +kernel
section
variable {c : Cy cls} {ρ : Rho}
theorem we_isi {a k : Expr} {pp pos : Pos} {P : D → Prop} {ex : Xd → Prop} (nb : NB c.X.mg) (h : WE c a ρ (fun d => WE c k ρ (fun kd => ∃ t u b, tagV cls d = some t ∧ clV cls kd = some u ∧ (∀ k fs, d = .obj k fs → InsF c.X.K (cls k)) ∧ PySem.W.kitOne c.X.K t u = some b ∧ P (.bl b)) ex) ex)
    (hp : PE c.X (.Call (.Name "isinstance" pp) [a, k] [] pos) (tCB (rIsi c.X.K) (tAs c [a, k])) := by exact pe_callB call_isi (by rfl) ((by assumption : NB _) _ bl_isinstance) bt_isinstance (pa_cons (peU _ _) (pa_cons (peU _ _) pa_nil))) :
    WE c (.Call (.Name "isinstance" pp) [a, k] [] pos) ρ P ex := we_blt hp lsd_isi (WE.mono h fun d z => WE.mono z fun kd ⟨t, u, b, h1, h2, h3, h4, h5⟩ => ⟨d, kd, t, u, b, rfl, h1, h2, h3, h4, h5⟩)
theorem we_isiT {a : Expr} {ks : List Expr} {kk : Nat} {tp pp pos : Pos} {P : D → Prop} {ex : Xd → Prop} (nb : NB c.X.mg) (h : WE c a ρ (fun d => WE c (.Tuple ks kk tp) ρ (fun kd => ∃ cs t us b, kd = .tup cs ∧ tagV cls d = some t ∧ cs.mapM (clV cls) = some us ∧ (∀ k fs, d = .obj k fs → InsF c.X.K (cls k)) ∧ PySem.W.kitAny c.X.K t us = some b ∧ P (.bl b)) ex) ex)
    (hp : PE c.X (.Call (.Name "isinstance" pp) [a, .Tuple ks kk tp] [] pos) (tCB (rIsiT c.X.K) (tAs c [a, .Tuple ks kk tp])) := by exact pe_callB call_isiT (by rfl) ((by assumption : NB _) _ bl_isinstance) bt_isinstance (pa_cons (peU _ _) (pa_cons (peU _ _) pa_nil))) :
    WE c (.Call (.Name "isinstance" pp) [a, .Tuple ks kk tp] [] pos) ρ P ex := we_blt hp lsd_isiT (WE.mono h fun d z => WE.mono z fun kd ⟨cs, t, us, b, e, h1, h2, h3, h4, h5⟩ => ⟨d, cs, t, us, b, by rw [e], h1, h2, h3, h4, h5⟩)
theorem we_len {a : Expr} {pp pos : Pos} {P : D → Prop} {ex : Xd → Prop} (nb : NB c.X.mg) (h : WE c a ρ (fun d => ∃ n, lenD d = some n ∧ P (.int n)) ex)
    (hp : PE c.X (.Call (.Name "len" pp) [a] [] pos) (tCB (fun xs H Q => ∃ x n, xs = [x] ∧ LenV c.X.K x H n ∧ Q (.int n) H) (tAs c [a])) := by exact pe_callB call_len (by rfl) ((by assumption : NB _) _ bl_len) bt_len (pa_cons (peU _ _) pa_nil)) :
    WE c (.Call (.Name "len" pp) [a] [] pos) ρ P ex := we_blt hp lsd_len (WE.mono h fun d ⟨n, h1, h2⟩ => ⟨d, n, rfl, h1, h2⟩)
theorem we_all {a : Expr} {pp pos : Pos} {P : D → Prop} {ex : Xd → Prop} (nb : NB c.X.mg) (h : WE c a ρ (fun d => ∃ bs : List Bool, d = .lst (bs.map D.bl) ∧ P (.bl (bs.all id))) ex)
    (hp : PE c.X (.Call (.Name "all" pp) [a] [] pos) (tCB (rAll c.X.K) (tAs c [a])) := by exact pe_callB (cr_all rfl) (by rfl) ((by assumption : NB _) _ bl_all) bt_all (pa_cons (peU _ _) pa_nil)) :
    WE c (.Call (.Name "all" pp) [a] [] pos) ρ P ex := we_blt hp lsd_all (WE.mono h fun d ⟨n, h1, h2⟩ => ⟨n, by rw [h1], h2⟩)
theorem we_sum {a : Expr} {pp pos : Pos} {P : D → Prop} {ex : Xd → Prop} (nb : NB c.X.mg) (h : WE c a ρ (fun d => ∃ ns : List Int, d = .lst (ns.map D.int) ∧ P (.int ns.sum)) ex)
    (hp : PE c.X (.Call (.Name "sum" pp) [a] [] pos) (tCB (rSum c.X.K) (tAs c [a])) := by exact pe_callB (cr_sum rfl) (by rfl) ((by assumption : NB _) _ bl_sum) bt_sum (pa_cons (peU _ _) pa_nil)) :
    WE c (.Call (.Name "sum" pp) [a] [] pos) ρ P ex := we_blt hp lsd_sum (WE.mono h fun d ⟨n, h1, h2⟩ => ⟨n, by rw [h1], h2⟩)
theorem we_int1 {a : Expr} {pp pos : Pos} {P : D → Prop} {ex : Xd → Prop} (nb : NB c.X.mg) (h : WE c a ρ (fun d => ∃ n, d = .int n ∧ P (.int n)) ex)
    (hp : PE c.X (.Call (.Name "int" pp) [a] [] pos) (tCB (fun xs H Q => (∃ i, xs = [.int i] ∧ Q (.int i) H) ∨ ∃ k, xs = [.bl k] ∧ Q (.int (if k then 1 else 0)) H) (tAs c [a])) := by exact pe_callTy call_int1 (by rfl) ((by assumption : NB _) _ bl_int) bt_int (pa_cons (peU _ _) pa_nil)) :
    WE c (.Call (.Name "int" pp) [a] [] pos) ρ P ex := we_blt hp lsd_int (WE.mono h fun d ⟨n, h1, h2⟩ => ⟨n, by rw [h1], h2⟩)
theorem we_abs {a : Expr} {pp pos : Pos} {P : D → Prop} {ex : Xd → Prop} (nb : NB c.X.mg) (h : WE c a ρ (fun d => ∃ n, d = .int n ∧ P (.int (if n < 0 then -n else n))) ex)
    (hp : PE c.X (.Call (.Name "abs" pp) [a] [] pos) (tCB (fun xs H Q => ∃ i, xs = [.int i] ∧ Q (.int (if i < 0 then -i else i)) H) (tAs c [a])) := by exact pe_callB call_abs (by rfl) ((by assumption : NB _) _ bl_abs) bt_abs (pa_cons (peU _ _) pa_nil)) :
    WE c (.Call (.Name "abs" pp) [a] [] pos) ρ P ex := we_blt hp lsd_abs (WE.mono h fun d ⟨n, h1, h2⟩ => ⟨n, by rw [h1], h2⟩)
theorem we_tupleOf {a : Expr} {pp pos : Pos} {P : D → Prop} {ex : Xd → Prop} (nb : NB c.X.mg) (h : WE c a ρ (fun d => ∃ xs, (d = .lst xs ∨ d = .tup xs) ∧ P (.tup xs)) ex)
    (hp : PE c.X (.Call (.Name "tuple" pp) [a] [] pos) (tCB (fun xs H Q => ∃ p ys, xs = [.ref p] ∧ ((SqL c.X.K H p ys ∧ ∀ l, H l = none → Q (.ref l) (upd H l (.tup ys))) ∨ (SqT c.X.K H p ys ∧ Q (.ref p) H))) (tAs c [a])) := by exact pe_callTy call_tuple_of (by rfl) ((by assumption : NB _) _ bl_tuple) bt_tuple (pa_cons (peU _ _) pa_nil)) :
    WE c (.Call (.Name "tuple" pp) [a] [] pos) ρ P ex := we_blt hp lsd_tuple (WE.mono h fun d ⟨n, h1, h2⟩ => ⟨n, h1.elim (fun z => .inl (by rw [z])) (fun z => .inr (by rw [z])), h2⟩)
/-! isinstance of plain data -/
/-- a plain datum, as far as one sees -/
def _root_.Vl.dat : D → Bool
  | .non => true | .bl _ => true | .int _ => true | .str _ => true | .lst _ => true | .tup _ => true
  | _ => false
def _root_.Vl.tagT : D → String
  | .non => "NoneType" | .bl _ => "bool" | .int _ => "int" | .str _ => "str" | .lst _ => "list" | .tup _ => "tuple"
  | _ => ""
def _root_.Vl.isA (n : String) : D → Bool
  | .bl _ => n == "bool" || n == "int"
  | .int _ => n == "int"
  | .str _ => n == "str"
  | .lst _ => n == "list"
  | .tup _ => n == "tuple"
  | _ => false
theorem tag_dat {d : D} (h : dat d = true) : tagV cls d = some (.type (tagT d)) := by cases d <;> first | rfl | cases h
theorem kit_dat {K : PySem.W.Frag} {d : D} {n : String} (h : dat d = true) (hn : n = "int" ∨ n = "bool" ∨ n = "str" ∨ n = "list" ∨ n = "tuple") : PySem.W.kitOne K (.type (tagT d)) (.type n) = some (isA n d) := by
  rcases hn with rfl | rfl | rfl | rfl | rfl <;> cases d <;> first | (cases h; done) | (simp only [tagT, isA]; exact kit_ty (by decide +kernel))
theorem obj_dat {d : D} (h : dat d = true) {Q : Nat → List (Str × D) → Prop} : ∀ k fs, d = .obj k fs → Q k fs := fun k fs e => by subst e; cases h
/-- isinstance(a, T), T one of five -/
theorem we_isA {n : String} {a : Expr} {np pp pos : Pos} {P : D → Prop} {ex : Xd → Prop} (nb : NB c.X.mg) (hn : n = "int" ∨ n = "bool" ∨ n = "str" ∨ n = "list" ∨ n = "tuple") (h : WE c a ρ (fun d => dat d = true ∧ P (.bl (isA n d))) ex)
    (hg : Gl c.X (Str.ofString n) := by rfl)
    (hp : PE c.X (.Call (.Name "isinstance" pp) [a, .Name (Str.ofString n) np] [] pos) (tCB (rIsi c.X.K) (tAs c [a, .Name (Str.ofString n) np])) := by exact pe_callB call_isi (by rfl) ((by assumption : NB _) _ bl_isinstance) bt_isinstance (pa_cons (peU _ _) (pa_cons (peU _ _) pa_nil))) :
    WE c (.Call (.Name "isinstance" pp) [a, .Name (Str.ofString n) np] [] pos) ρ P ex :=
  we_isi nb (WE.mono h fun d ⟨h1, h2⟩ => we_ty (nb _ (bl_ty hn)) ⟨_, _, _, tag_dat h1, rfl, obj_dat h1, kit_dat h1 hn, h2⟩ (bt_ty hn) hg (nn_ty hn) (nd_ty hn)) hp
/-- isinstance(a, (list, tuple)) -/
theorem we_isA2 {n m : String} {a : Expr} {np mp tp pp pos : Pos} {kk : Nat} {P : D → Prop} {ex : Xd → Prop} (nb : NB c.X.mg) (hn : n = "int" ∨ n = "bool" ∨ n = "str" ∨ n = "list" ∨ n = "tuple") (hm' : m = "int" ∨ m = "bool" ∨ m = "str" ∨ m = "list" ∨ m = "tuple")
    (h : WE c a ρ (fun d => dat d = true ∧ P (.bl (isA n d || isA m d))) ex)
    (hg : Gl c.X (Str.ofString n) := by rfl)
    (hg2 : Gl c.X (Str.ofString m) := by rfl)
    (hp : PE c.X (.Call (.Name "isinstance" pp) [a, .Tuple [.Name (Str.ofString n) np, .Name (Str.ofString m) mp] kk tp] [] pos) (tCB (rIsiT c.X.K) (tAs c [a, .Tuple [.Name (Str.ofString n) np, .Name (Str.ofString m) mp] kk tp])) := by exact pe_callB call_isiT (by rfl) ((by assumption : NB _) _ bl_isinstance) bt_isinstance (pa_cons (peU _ _) (pa_cons (peU _ _) pa_nil)))
    (hpt : PA c.X [.Name (Str.ofString n) np, .Name (Str.ofString m) mp] (tAs c [.Name (Str.ofString n) np, .Name (Str.ofString m) mp]) := by (repeat (first | exact pa_nil | refine pa_cons (peU _ _) ?_))) :
    WE c (.Call (.Name "isinstance" pp) [a, .Tuple [.Name (Str.ofString n) np, .Name (Str.ofString m) mp] kk tp] [] pos) ρ P ex :=
  we_isiT nb (WE.mono h fun d ⟨h1, h2⟩ => we_tup (we_ty (nb _ (bl_ty hn)) (we_ty (nb _ (bl_ty hm')) ⟨_, _, [.type n, .type m], _, rfl, tag_dat h1, rfl, obj_dat h1, by
    show PySem.W.kitAny c.X.K _ [.type n, .type m] = some (isA n d || isA m d)
    unfold PySem.W.kitAny
    rw [kit_dat h1 hn]
    cases isA n d with
    | true => rfl
    | false =>
      unfold PySem.W.kitAny
      rw [kit_dat h1 hm']
      cases isA m d <;> rfl, h2⟩ (bt_ty hm') hg2 (nn_ty hm') (nd_ty hm')) (bt_ty hn) hg (nn_ty hn) (nd_ty hn)) hpt (by show 2 ≤ sizeLine; decide)) hp
/-! numbers -/
theorem we_add {a b : Expr} {pos : Pos} {P : D → Prop} {ex : Xd → Prop} (h : WE c a ρ (fun x => WE c b ρ (fun y => ∃ i j, x = .int i ∧ y = .int j ∧ P (.int (i + j))) ex) ex) : WE c (.BinOp a .Add b pos) ρ P ex := we_bin (pe_op op_add (peU c a) (peU c b)) (opd_I0 _ (fun i j => .int (i + j)) fun _ _ _ _ => .int _) h
theorem we_sub {a b : Expr} {pos : Pos} {P : D → Prop} {ex : Xd → Prop} (h : WE c a ρ (fun x => WE c b ρ (fun y => ∃ i j, x = .int i ∧ y = .int j ∧ P (.int (i - j))) ex) ex) : WE c (.BinOp a .Sub b pos) ρ P ex := we_bin (pe_op op_sub (peU c a) (peU c b)) (opd_I0 _ (fun i j => .int (i - j)) fun _ _ _ _ => .int _) h
theorem we_mul {a b : Expr} {pos : Pos} {P : D → Prop} {ex : Xd → Prop} (h : WE c a ρ (fun x => WE c b ρ (fun y => ∃ i j, x = .int i ∧ y = .int j ∧ CMul i j ∧ P (.int (i * j))) ex) ex) : WE c (.BinOp a .Mult b pos) ρ P ex := we_bin (pe_op op_mul (peU c a) (peU c b)) (opd_I _ _ (fun i j => .int (i * j)) fun _ _ _ _ => .int _) h
theorem we_mod {a b : Expr} {pos : Pos} {P : D → Prop} {ex : Xd → Prop} (h : WE c a ρ (fun x => WE c b ρ (fun y => ∃ i j, x = .int i ∧ y = .int j ∧ j ≠ 0 ∧ P (.int (i.fmod j))) ex) ex) : WE c (.BinOp a .Mod b pos) ρ P ex := we_bin (pe_op op_modN (peU c a) (peU c b)) (opd_I _ _ (fun i j => .int (i.fmod j)) fun _ _ _ _ => .int _) h
theorem we_fdiv {a b : Expr} {pos : Pos} {P : D → Prop} {ex : Xd → Prop} (h : WE c a ρ (fun x => WE c b ρ (fun y => ∃ i j, x = .int i ∧ y = .int j ∧ CDivN i j ∧ P (.int (i.fdiv j))) ex) ex) : WE c (.BinOp a .FloorDiv b pos) ρ P ex := we_bin (pe_op op_fdivN (peU c a) (peU c b)) (opd_I _ _ (fun i j => .int (i.fdiv j)) fun _ _ _ _ => .int _) h
theorem we_pow {a b : Expr} {pos : Pos} {P : D → Prop} {ex : Xd → Prop} (h : WE c a ρ (fun x => WE c b ρ (fun y => ∃ i j, x = .int i ∧ y = .int j ∧ CPow i j ∧ P (.int (i ^ j.toNat))) ex) ex) : WE c (.BinOp a .Pow b pos) ρ P ex := we_bin (pe_op op_pow (peU c a) (peU c b)) (opd_I _ _ (fun i j => .int (i ^ j.toNat)) fun _ _ _ _ => .int _) h
theorem we_neg {a : Expr} {pos : Pos} {P : D → Prop} {ex : Xd → Prop} (h : WE c a ρ (fun x => ∃ i, x = .int i ∧ P (.int (-i))) ex) : WE c (.UnaryOp .USub a pos) ρ P ex := we_un (F := fun x P => ∃ i, x = .int i ∧ P (.int (-i))) (pe_un un_neg (peU c a)) (fun R H vx x P nd ok q f Q k => by
  obtain ⟨i, rfl, h⟩ := f
  cases q
  exact ⟨i, rfl, k _ _ (Fin.here ok nd (.int _) h)⟩) h
theorem we_eq {a b : Expr} {pos : Pos} {P : D → Prop} {ex : Xd → Prop} (h : WE c a ρ (fun x => WE c b ρ (fun y => FEq x y P) ex) ex) : WE c (.Compare a [.Eq] [b] pos) ρ P ex := we_bin (pe_cmpR op_eq (peU c a) (peU c b) (nomark _)) opd_eq h
theorem we_isN {a b : Expr} {pos : Pos} {P : D → Prop} {ex : Xd → Prop} (h : WE c a ρ (fun x => WE c b ρ (fun y => y = .non ∧ P (.bl (isNon x))) ex) ex) : WE c (.Compare a [.Is] [b] pos) ρ P ex := we_bin (pe_cmpR op_isN (peU c a) (peU c b) (nomark _)) opd_isN h
abbrev BP (P : Bool → Prop) : D → Prop := fun z => ∃ k, z = .bl k ∧ P k
theorem wt_lt {a b : Expr} {pos : Pos} {P : Bool → Prop} {ex : Xd → Prop} (h : WE c a ρ (fun x => WE c b ρ (fun y => FB (fun i j => decide (i < j)) x y (BP P)) ex) ex) : WT c (.Compare a [.Lt] [b] pos) ρ P ex := wt_bin (pt_cmpR op_lt (peU c a) (peU c b) (nomark _)) (opd_B _) h
theorem wt_le {a b : Expr} {pos : Pos} {P : Bool → Prop} {ex : Xd → Prop} (h : WE c a ρ (fun x => WE c b ρ (fun y => FB (fun i j => decide (i ≤ j)) x y (BP P)) ex) ex) : WT c (.Compare a [.LtE] [b] pos) ρ P ex := wt_bin (pt_cmpR op_le (peU c a) (peU c b) (nomark _)) (opd_B _) h
theorem wt_gt {a b : Expr} {pos : Pos} {P : Bool → Prop} {ex : Xd → Prop} (h : WE c a ρ (fun x => WE c b ρ (fun y => FB (fun i j => decide (j < i)) x y (BP P)) ex) ex) : WT c (.Compare a [.Gt] [b] pos) ρ P ex := wt_bin (pt_cmpR op_gt (peU c a) (peU c b) (nomark _)) (opd_B _) h
theorem wt_ge {a b : Expr} {pos : Pos} {P : Bool → Prop} {ex : Xd → Prop} (h : WE c a ρ (fun x => WE c b ρ (fun y => FB (fun i j => decide (j ≤ i)) x y (BP P)) ex) ex) : WT c (.Compare a [.GtE] [b] pos) ρ P ex := wt_bin (pt_cmpR op_ge (peU c a) (peU c b) (nomark _)) (opd_B _) h
theorem wt_eq {a b : Expr} {pos : Pos} {P : Bool → Prop} {ex : Xd → Prop} (h : WE c a ρ (fun x => WE c b ρ (fun y => FEq x y (BP P)) ex) ex) : WT c (.Compare a [.Eq] [b] pos) ρ P ex := wt_bin (pt_cmpR op_eq (peU c a) (peU c b) (nomark _)) opd_eq h
theorem wt_ne {a b : Expr} {pos : Pos} {P : Bool → Prop} {ex : Xd → Prop} (h : WE c a ρ (fun x => WE c b ρ (fun y => FNe x y (BP P)) ex) ex) : WT c (.Compare a [.NotEq] [b] pos) ρ P ex := wt_bin (pt_cmpR op_ne (peU c a) (peU c b) (nomark _)) opd_ne h
theorem wt_notN {a b : Expr} {pos : Pos} {P : Bool → Prop} {ex : Xd → Prop} (h : WE c a ρ (fun x => WE c b ρ (fun y => y = .non ∧ BP P (.bl (!isNon x))) ex) ex) : WT c (.Compare a [.IsNot] [b] pos) ρ P ex := wt_bin (pt_cmpR op_notN (peU c a) (peU c b) (nomark _)) opd_notN h
/-- a <= b <= c, numbers -/
theorem we_leLe {a b e : Expr} {pos : Pos} {P : D → Prop} {ex : Xd → Prop} (h : WE c a ρ (fun x => WE c b ρ (fun y => FB (fun i j => decide (i ≤ j)) x y (fun z => ∃ k, z = .bl k ∧ (k = true → WE c e ρ (fun w => FB (fun i j => decide (i ≤ j)) y w P) ex) ∧ (k = false → P (.bl false)))) ex) ex)
    (hm : lastMarks [.LtE, .LtE] [b, e] = false := by with_unfolding_all rfl) : WE c (.Compare a [.LtE, .LtE] [b, e] pos) ρ P ex := we_chain op_le op_le (opd_B _) (opd_B _) h hm
theorem wt_leLe {a b e : Expr} {pos : Pos} {P : Bool → Prop} {ex : Xd → Prop} (h : WE c a ρ (fun x => WE c b ρ (fun y => FB (fun i j => decide (i ≤ j)) x y (fun z => ∃ k, z = .bl k ∧ (k = true → WE c e ρ (fun w => FB (fun i j => decide (i ≤ j)) y w (BP P)) ex) ∧ (k = false → P false))) ex) ex)
    (hm : lastMarks [.LtE, .LtE] [b, e] = false := by with_unfolding_all rfl) : WT c (.Compare a [.LtE, .LtE] [b, e] pos) ρ P ex := wt_chain op_le op_le (opd_B _) (opd_B _) h hm
theorem we_ix {a b : Expr} {pos : Pos} {P : D → Prop} {ex : Xd → Prop} (h : WE c a ρ (fun x => WE c b ρ (fun y => ∃ i d, y = .int i ∧ itemD x i = some d ∧ P d) ex) ex) (hp : PlainIx b := by exact fun _ _ => rfl) : WE c (.Subscript a b pos) ρ P ex := we_bin (pe_ix ix_seq (peU c a) (peU c b) hp) opd_ix h
end
end Vl
end
section
set_option maxHeartbeats 4000000
namespace Vl
open PySem PySem.Spec PyProof.Rows L2
variable {cls : Nat → Addr}
/-! ### enumerate(v) of anything that begins -/
theorem meets_enum1 {v : Value} {o : Obj} {G : Heap → Prop} (B : Begins v o G) :
    Meets (Builtin.«enumerate.__new__» ⟨[.type "enumerate", v], []⟩) (fun _ R s => G s.heap ∧ R (.ok (.ret (.ref (s.heap.push o).objs.size)))
      { s with heap := (s.heap.push o).push { cls := .type "enumerate", data := .fields #[.none, .bool false, .ref s.heap.objs.size, rawInt 0, .none, .none] } }) :=
  .of_wp fun prog w A R s z => by
    obtain ⟨hp, gs, dr, tk, ops⟩ := s
    obtain ⟨z1, z2⟩ := z
    have sub := sub_enumerate
    have go : ∀ {A' : Around} {E : Value → Shared → Prop} {Q : Value → Shared → Prop}, Q (.ref hp.objs.size) ⟨hp.push o, gs, dr, tk, ops⟩ → wpAny (model prog w) A' (pyIter v) Q E ⟨hp, gs, dr, tk, ops⟩ := fun q => B.iter prog w _ _ _ _ z1 q
    wp_walk using go
    refine wpAny_stack_any fun stk => wpAny_pure ?_
    split
    · rename_i k _ _ _ _ _
      cases (k == Value.type "enumerate") <;> (wp_walk using go; exact ⟨_, rfl, z2⟩)
    · wp_walk using go
      exact ⟨_, rfl, z2⟩
theorem call_enum1 {prog : Program} {w : World} {A : Around} {E : Value → Shared → Prop} {s : Shared} {v : Value} {o : Obj} {G : Heap → Prop} {Q : Value → Shared → Prop} (B : Begins v o G) (g : G s.heap)
    (h : ∀ h', IsEnum h' (s.heap.objs.size + 1) s.heap.objs.size 0 .none → h'.get? s.heap.objs.size = some o → (∀ b u, s.heap.get? b = some u → h'.get? b = some u) → Q (.ref (s.heap.objs.size + 1)) { s with heap := h' }) :
    wpAny (model prog w) A (call (.type "enumerate") [v]) Q E s := by
  refine callType_new F.called_enumerate (by decide) (F.typeCall_enumerate_1 _) (F.newCall_enumerate_1 _) (fun obj => F.args_object_init_2 obj _) F.entry_enumerate_new (meets_enum1 B) ⟨g, ?_⟩
  have sz : (s.heap.push o).objs.size = s.heap.objs.size + 1 := Heap.size_push ..
  show _ ∧ _
  rw [sz]
  have ie : IsEnum ((s.heap.push o).push { cls := .type "enumerate", data := .fields #[.none, .bool false, .ref s.heap.objs.size, rawInt 0, .none, .none] }) (s.heap.objs.size + 1) s.heap.objs.size 0 .none := by
    have z := Heap.get?_push_size (s.heap.push o) (o := { cls := .type "enumerate", data := .fields #[.none, .bool false, .ref s.heap.objs.size, rawInt 0, .none, .none] }) rfl
    rw [sz] at z
    exact z
  exact ⟨⟨_, ie, rfl⟩, h _ ie (Heap.get?_push_of_some _ (Heap.get?_push_size _ B.free)) fun b u q => Heap.get?_push_of_some _ (Heap.get?_push_of_some _ q)⟩
/-- one turn of an enumerate over an iterator at `it` whose own state is told by `own` -/
theorem turn_enumG {P : Program} {w : World} {K : PySem.W.Frag} {elts : List Expr} {kk : Nat} {tpos : Pos} (J : It) (e it : Addr) (own : Nat → Heap → Prop) (hne : e ≠ it)
    (hobj : ∀ i h, own i h → ∃ o, h.get? it = some o ∧ ∀ v, o.data ≠ .cell v) (hkeep : ∀ i h h', own i h → (∀ o, h.get? it = some o → h'.get? it = some o) → own i h')
    (hgo : ∀ (X : Cx), X.prog = P → X.w = w → X.K = K → X.calm = true → ∀ (i : Nat) (pins : List (Addr × Obj)) (s : Shared) (σ : L2.St) (H : Hp), Inv X pins σ H s → own i s.heap → J.go i H → ∃ (n : Nat) (Pv : Nat → Value → Prop) (Sd : Nat → Heap → Prop) (fp : List Addr),
      Draws P w X.A.in1 it fp n Pv Sd ∧ Sd i s.heap ∧ i < n ∧ (∀ b ∈ fp, b ≠ it → ∃ u, H b = some u) ∧ (∀ x, Pv i x → ∃ v, RelV v x ∧ ∀ T, H T = none → J.yld i H (.ref T) (upd H T (.tup [.int (i : Nat), v]))) ∧ ∀ h', Sd (i + 1) h' → own (i + 1) h')
    (hstop : ∀ (X : Cx), X.prog = P → X.w = w → X.K = K → X.calm = true → ∀ (i : Nat) (pins : List (Addr × Obj)) (s : Shared) (σ : L2.St) (H : Hp), Inv X pins σ H s → own i s.heap → J.stop i H → ∃ (n : Nat) (Pv : Nat → Value → Prop) (Sd : Nat → Heap → Prop) (fp : List Addr), Draws P w X.A.in1 it fp n Pv Sd ∧ Sd n s.heap) :
    Turn P w K (.Tuple elts kk tpos) J [e, it] e (fun i h => (∃ old, IsEnum h e it ((i : Nat) : Int) old) ∧ own i h) where
  mem := by simp
  obj := fun i h st b hb => by
    obtain ⟨⟨old, he⟩, ho⟩ := st
    have z : b = e ∨ b = it := by simpa using hb
    rcases z with z | z
    · rw [z]; exact ⟨_, he, fun v q => nomatch q⟩
    · rw [z]; exact hobj i h ho
  keep := fun i h h' st k => let ⟨⟨old, he⟩, ho⟩ := st; ⟨⟨old, k e (by simp) _ he⟩, hkeep i h h' ho fun o q => k it (by simp) o q⟩
  item := by
    intro X hP hw hK hc i pins s σ H E I hf st hg
    obtain ⟨⟨old, he⟩, ho⟩ := st
    obtain ⟨n, Pv, Sd, fp, D, sd, lt, hfp, hy, hown⟩ := hgo X hP hw hK hc i pins s σ H I ho hg
    subst hP hw hK
    have hel : e < s.heap.objs.size := Heap.lt_size he
    have hil : it < s.heap.objs.size := let ⟨o, q, _⟩ := hobj i _ ho; Heap.lt_size q
    have hen : H e = none := (hf e (by simp)).1
    have hef : e ∉ fp := fun z => by
      obtain ⟨u, q⟩ := hfp e z hne
      rw [hen] at q
      cases q
    refine wpAny_pyNext_enum_itemD D he sd lt hne hef fun x h' tk px ho' sd' hT hsz hk => ?_
    obtain ⟨v, rv, yl⟩ := hy x px
    refine ⟨_, rfl, wpAny_letOwnedTupleGo_enum (s := { s with heap := h', toks := tk + 1 }) ho' fun h'' he' sb => ?_⟩
    have hT2 : h''.get? s.heap.objs.size = some { cls := .type "tuple", data := .seq #[.int i tk, x] } := (sb.2 _ (Nat.ne_of_gt hel)).trans hT
    have new : ObjOk X.prog X.w (upd H s.heap.objs.size (.tup [.int (i : Nat), v])) h'' s.heap.objs.size (.tup [.int (i : Nat), v]) :=
      ⟨by show 2 ≤ sizeLine; decide, [.int i tk, x], .cons ⟨_, rfl⟩ (.cons rv .nil), ⟨_, hT2, rfl, _, rfl⟩⟩
    have I1 : Inv X pins σ (upd H s.heap.objs.size (.tup [.int (i : Nat), v])) { s with heap := h'', toks := tk + 1 } :=
      I.turnedNew (ch := [e, it]) (fun b ob hb q => (sb.2 b (fun z => hb (by simp [z]))).trans (hk b ob (fun z => hb (by simp [z])) (fun z => hb (by simp [z])) q)) hf (Nat.le_refl _) new
    refine ⟨.ref s.heap.objs.size, _, I1, rfl, yl _ (I.hok.fresh (Nat.le_refl _)), ⟨⟨x, ?_⟩, hkeep _ _ _ (hown h' sd') fun o q => (sb.2 it (Ne.symm hne)).trans q⟩, fun b hb => ?_⟩
    · have e1 : ((i + 1 : Nat) : Int) = (i : Int) + 1 := by omega
      rw [e1]
      exact he'
    · have z : b = e ∨ b = it := by simpa using hb
      have hb' : b < s.heap.objs.size := by
        rcases z with z | z
        · rw [z]; exact hel
        · rw [z]; exact hil
      rw [upd_ne (Nat.ne_of_lt hb')]
      exact (hf b hb).1
  done := by
    intro X hP hw hK hc i pins s σ H E I hf st hg
    obtain ⟨⟨old, he⟩, ho⟩ := st
    obtain ⟨n, Pv, Sd, fp, D, sd⟩ := hstop X hP hw hK hc i pins s σ H I ho hg
    subst hP hw hK
    obtain ⟨f0, f1, f2, f3, f4, f5⟩ := hf it (by simp)
    exact wpAny_pyNext_enum_endD D he sd fun h' eb => ⟨rfl, I.turned (t' := s.toks) (fun b o hb q => eb b o hb q) f0 f1 f3 f4 f5⟩
  self := fun A i s Q E st h => let ⟨⟨_, he⟩, _⟩ := st; wpAny_pyIter_enum he h
/-- the tuple at a, numbered; a text, numbered -/
def IteT (a : Addr) : It :=
  ⟨fun i H => ∃ (xs : List V) (x : V), H a = some (.tup xs) ∧ xs[i]? = some x, fun i H v H' => ∃ T x, v = .ref T ∧ H T = none ∧ H' = upd H T (.tup [.int (i : Nat), x]) ∧ ∀ xs, H a = some (.tup xs) → xs[i]? = some x, fun i H => ∃ xs : List V, H a = some (.tup xs) ∧ xs.length = i⟩
def IteS (z : Str) : It :=
  ⟨fun i _ => i < z.cps.size, fun i H v H' => ∃ T n, v = .ref T ∧ H T = none ∧ H' = upd H T (.tup [.int (i : Nat), .str ⟨#[n]⟩]) ∧ z.cps[i]? = some n, fun i _ => z.cps.size = i⟩
theorem turn_enumT {P : Program} {w : World} {K : PySem.W.Frag} {elts : List Expr} {kk : Nat} {tpos : Pos} (a e it : Addr) (hne : e ≠ it) (hat : a ≠ it) :
    Turn P w K (.Tuple elts kk tpos) (IteT a) [e, it] e (fun i h => (∃ old, IsEnum h e it ((i : Nat) : Int) old) ∧ h.IsTupleIter it a i) :=
  turn_enumG (IteT a) e it (fun i h => h.IsTupleIter it a i) hne (fun i h ⟨o, e1, e2, e3⟩ => ⟨o, e1, fun v q => by rw [e3] at q; cases q⟩) (fun i h h' st k => st.at k)
    (fun X hP hw hK hc i pins s σ H I ho hg => by
      subst hP hw hK
      obtain ⟨xs, x, hq, hx⟩ := hg
      obtain ⟨its, rv, p, hz⟩ := I.tuple (sq_t hq)
      obtain ⟨u, hu, ru⟩ := rv.get hx
      refine ⟨_, _, _, _, Draws.tuple (A := X.A.in1) (I.ok.hd hc) it a hat its.toArray, ⟨ho, p⟩, by simpa using (List.getElem?_eq_some_iff.mp hu).1, fun b hb hn => ?_, fun y hy => ?_, fun h' q => q.1⟩
      · have z : b = it ∨ b = a := by simpa using hb
        rcases z with z | z
        · exact absurd z hn
        · subst z
          exact ⟨_, hq⟩
      · have ey : y = u := by
          have hy' : its[i]? = some y := by simpa using hy
          rw [hu] at hy'
          exact (Option.some.inj hy').symm
        subst ey
        exact ⟨x, ru, fun T hT => ⟨T, x, rfl, hT, rfl, fun ys hy2 => by rw [hq] at hy2; cases hy2; exact hx⟩⟩)
    (fun X hP hw hK hc i pins s σ H I ho hg => by
      subst hP hw hK
      obtain ⟨xs, hq, hx⟩ := hg
      obtain ⟨its, rv, p, hz⟩ := I.tuple (sq_t hq)
      have hl : its.toArray.size = i := by rw [List.size_toArray, ← rv.length, hx]
      exact ⟨_, _, _, _, Draws.tuple (A := X.A.in1) (I.ok.hd hc) it a hat its.toArray, by rw [hl]; exact ⟨ho, p⟩⟩)
theorem turn_enumS {P : Program} {w : World} {K : PySem.W.Frag} {elts : List Expr} {kk : Nat} {tpos : Pos} (z : Str) (t : Tok) (e it : Addr) (hne : e ≠ it) :
    Turn P w K (.Tuple elts kk tpos) (IteS z) [e, it] e (fun i h => (∃ old, IsEnum h e it ((i : Nat) : Int) old) ∧ h.IsStrIter it (strIterType z) z t i) :=
  turn_enumG (IteS z) e it (fun i h => h.IsStrIter it (strIterType z) z t i) hne (fun i h ⟨o, e1, e2, e3⟩ => ⟨o, e1, fun v q => by rw [e3] at q; cases q⟩) (fun i h h' ⟨o, e1, e2, e3⟩ k => ⟨o, k o e1, e2, e3⟩)
    (fun X hP hw hK hc i pins s σ H I ho hg => by
      subst hP hw hK
      refine ⟨_, _, _, _, Draws.text (A := X.A.in1) (I.ok.hd hc) it z t, ho, hg, fun b hb hn => absurd (by simpa using hb) hn, fun y hy => ?_, fun h' q => q⟩
      obtain ⟨n, u, h1, h2⟩ := hy
      subst h2
      exact ⟨.str ⟨#[n]⟩, ⟨u, rfl⟩, fun T hT => ⟨T, n, rfl, hT, rfl, h1⟩⟩)
    (fun X hP hw hK hc i pins s σ H I ho hg => by
      subst hP hw hK
      have hl : z.cps.size = i := hg
      exact ⟨_, _, _, _, Draws.text (A := X.A.in1) (I.ok.hd hc) it z t, by rw [hl]; exact ho⟩)
def iEnumA (ta : TA) : TI := fun σ H R => ta σ H fun vs H1 => (∃ a xs, vs = [.ref a] ∧ H1 a = some (.tup xs) ∧ R (IteT a) H1) ∨ ∃ z, vs = [.str z] ∧ R (IteS z) H1
theorem pi_enumA {X : Cx} {e : Expr} {ta : TA} {p pos tpos : Pos} {elts : List Expr} {kk : Nat} (hg : Gl X "enumerate") (hm : X.mg "enumerate" = none) (ha : PA X [e] ta) (hs : starEach [e] X.env = [(false, eval e X.env)] := by rfl) :
    PI X (.Tuple elts kk tpos) (.Call (.Name "enumerate" p) [e] [] pos) (iEnumA ta) := by
  refine ⟨fun pins s σ H R I h => Call_ (ld_blt I hg hm boot_enumerate (PyProof.Rows.callWith_type1 (thn (ha.run pos pins s σ H _ I h) fun us s1 ⟨vs, H1, I1, r1, q1⟩ => ?_) hs rfl))⟩
  have fr : ∀ b, b ∈ [s1.heap.objs.size + 1, s1.heap.objs.size] → FpOk X pins H1 b := fun b hb => by
    have z : b = s1.heap.objs.size + 1 ∨ b = s1.heap.objs.size := by simpa using hb
    have le : s1.heap.objs.size ≤ b := by omega
    exact I1.fpOk le (I1.hok.fresh le)
  rcases q1 with ⟨a, xs, ex, hq, q⟩ | ⟨z, ex, q⟩
  · subst ex
    cases r1 with
    | cons r rr =>
      cases rr
      cases r
      obtain ⟨its, rv, p', hz⟩ := I1.tuple (sq_t hq)
      refine call_enum1 (begins_tuple a its.toArray) p' fun h' he ho hk => wpAny_pyIter_enum he ?_
      have hat : a ≠ s1.heap.objs.size := by
        obtain ⟨o, q1, _⟩ := id p'
        exact Nat.ne_of_lt (Heap.lt_size q1)
      exact ⟨s1.heap.objs.size + 1, [s1.heap.objs.size + 1, s1.heap.objs.size], _, _, H1, rfl, I1.kept (t' := s1.toks) hk, turn_enumT a _ _ (Nat.succ_ne_self _) hat, ⟨⟨.none, he⟩, ⟨_, ho, rfl, rfl⟩⟩, fr, q⟩
  · subst ex
    cases r1 with
    | cons r rr =>
      cases rr
      obtain ⟨t, rfl⟩ := r
      refine call_enumerate_str fun h' he hi hsz hk => wpAny_pyIter_enum he ?_
      exact ⟨s1.heap.objs.size + 1, [s1.heap.objs.size + 1, s1.heap.objs.size], _, _, H1, rfl, I1.kept (t' := s1.toks) hk, turn_enumS z t _ _ (Nat.succ_ne_self _), ⟨⟨.none, he⟩, hi⟩, fr, q⟩
section
variable {c : Cy cls} {R : Addr → Prop} {H H' : Hp} {σ : L2.St} {ρ : Rho}
theorem wi_enumT {e : Expr} {elts : List Expr} {kk : Nat} {pp pos tpos : Pos} {P : List D → Prop} {ex : Xd → Prop} (hm : c.X.mg "enumerate" = none) (h : WE c e ρ (fun x => ∃ ds, x = .tup ds ∧ P (enumD ds)) ex)
    (hg : Gl c.X "enumerate" := by rfl) (ha : PA c.X [e] (tAs c [e]) := by (repeat (first | exact pa_nil | refine pa_cons (peU _ _) ?_))) (hs : starEach [e] c.X.env = [(false, eval e c.X.env)] := by rfl) : WI c (.Tuple elts kk tpos) (.Call (.Name "enumerate" pp) [e] [] pos) ρ P ex :=
  wi_of (pi_enumA hg hm ha hs) fun σ H R E S p x => tU.mk h S p x fun v H1 ⟨d, g, ok, q, ds, e, hp⟩ => by
    subst e
    cases q with
    | @tup a xs _ r e q =>
      refine .inl ⟨_, _, rfl, e, enumD ds, g, ok, IterD.pair (gx := fun i => some (.int (i : Nat))) (gy := fun i => ds[i]?) (G := fun H => H a = some (.tup xs)) (fx := fun i => some (.int (i : Nat))) (fy := fun i => xs[i]?) ⟨fun i H hi e => ⟨xs, xs[i]'(by rw [enumD_length, ← q.length] at hi; exact hi), e, by simp⟩, fun H e => ⟨xs, e, by rw [enumD_length, q.length]⟩, fun i H x H' hi e y => ?_⟩ rfl (fun R' H' k => (k _ _ r e).2) (fun i v h => ?_) (fun i v h => q.get' h) (fun i d e h1 h2 => ?_), hp⟩
      · obtain ⟨T, y, h1, h2, h3, h4⟩ := y
        exact ⟨T, .int (i : Nat), y, h1, h2, h3, rfl, h4 xs e⟩
      · cases h
        exact ⟨_, rfl, .int _⟩
      · cases h1
        rw [enumD_get, h2]
        rfl
theorem wi_enumS {e : Expr} {elts : List Expr} {kk : Nat} {pp pos tpos : Pos} {P : List D → Prop} {ex : Xd → Prop} (hm : c.X.mg "enumerate" = none) (h : WE c e ρ (fun x => ∃ z, x = .str z ∧ P (enumD (signs z))) ex)
    (hg : Gl c.X "enumerate" := by rfl) (ha : PA c.X [e] (tAs c [e]) := by (repeat (first | exact pa_nil | refine pa_cons (peU _ _) ?_))) (hs : starEach [e] c.X.env = [(false, eval e c.X.env)] := by rfl) : WI c (.Tuple elts kk tpos) (.Call (.Name "enumerate" pp) [e] [] pos) ρ P ex :=
  wi_of (pi_enumA hg hm ha hs) fun σ H R E S p x => tU.mk h S p x fun v H1 ⟨d, g, ok, q, z, e, hp⟩ => by
    subst e
    cases q
    refine .inr ⟨z, rfl, enumD (signs z), g, ok, IterD.pair (gx := fun i => some (.int (i : Nat))) (gy := fun i => (signs z)[i]?) (G := fun _ => True) (fx := fun i => some (.int (i : Nat))) (fy := fun i => (z.cps[i]?).map fun n => .str ⟨#[n]⟩) ⟨fun i H hi _ => by rw [enumD_length, signs_length] at hi; exact hi, fun H _ => by rw [enumD_length, signs_length]; rfl, fun i H x H' hi _ y => ?_⟩ rfl (fun _ _ _ => True.intro) (fun i v h => ?_) (fun i v h => ?_) (fun i d e h1 h2 => ?_), hp⟩
    · obtain ⟨T, n, h1, h2, h3, h4⟩ := y
      exact ⟨T, .int (i : Nat), .str ⟨#[n]⟩, h1, h2, h3, rfl, by show (z.cps[i]?).map _ = _; rw [h4]; rfl⟩
    · cases h
      exact ⟨_, rfl, .int _⟩
    · cases e : z.cps[i]? with
      | none => rw [e] at h; cases h
      | some n =>
        rw [e] at h
        cases h
        refine ⟨.str ⟨#[n]⟩, ?_, .str _⟩
        unfold signs
        rw [List.getElem?_map, Array.getElem?_toList, e]
        rfl
    · cases h1
      rw [enumD_get, h2]
      rfl
end
end Vl
end
section
set_option maxHeartbeats 4000000
namespace Vl
open PySem PySem.Spec PyProof.Rows L2
variable {cls : Nat → Addr}
section
variable {c : Cy cls} {R : Addr → Prop} {H H' : Hp} {σ : L2.St} {ρ : Rho}
/-! ### texts -/
theorem we_addS {a b : Expr} {pos : Pos} {P : D → Prop} {ex : Xd → Prop} (h : WE c a ρ (fun x => WE c b ρ (fun y => ∃ i j, x = .str i ∧ y = .str j ∧ i.length + j.length ≤ sizeLine ∧ P (.str (i ++ j))) ex) ex) : WE c (.BinOp a .Add b pos) ρ P ex :=
  we_bin (F := fun x y P => ∃ i j, x = .str i ∧ y = .str j ∧ i.length + j.length ≤ sizeLine ∧ P (.str (i ++ j))) (pe_op op_add_str (peU c a) (peU c b)) (fun R H vx vy x y P nd ok qx qy f Q k => by
    obtain ⟨i, j, rfl, rfl, hz, h⟩ := f
    cases qx
    cases qy
    exact ⟨i, j, rfl, rfl, hz, k _ _ (Fin.here ok nd (.str _) h)⟩) h
abbrev FIn (neg : Bool) : D → D → (D → Prop) → Prop := fun x y P => ∃ (n : Nat) (z : Str), x = .str ⟨#[n]⟩ ∧ y = .str z ∧ P (.bl (if neg then !decide (n ∈ z.cps.toList) else decide (n ∈ z.cps.toList)))
theorem opd_in : OpD c (fun x y H Q => ∃ (c : Nat) (z : Str), x = .str ⟨#[c]⟩ ∧ y = .str z ∧ Q (.bl (decide (c ∈ z.cps.toList))) H) (FIn false) := fun R H vx vy x y P nd ok qx qy f Q k => by
  obtain ⟨n, z, rfl, rfl, h⟩ := f
  cases qx
  cases qy
  exact ⟨n, z, rfl, rfl, k _ _ (Fin.here ok nd (.bl _) h)⟩
theorem opd_notIn : OpD c (fun x y H Q => ∃ (c : Nat) (z : Str), x = .str ⟨#[c]⟩ ∧ y = .str z ∧ Q (.bl (!decide (c ∈ z.cps.toList))) H) (FIn true) := fun R H vx vy x y P nd ok qx qy f Q k => by
  obtain ⟨n, z, rfl, rfl, h⟩ := f
  cases qx
  cases qy
  exact ⟨n, z, rfl, rfl, k _ _ (Fin.here ok nd (.bl _) h)⟩
theorem wt_notIn {a b : Expr} {pos : Pos} {P : Bool → Prop} {ex : Xd → Prop} (h : WE c a ρ (fun x => WE c b ρ (fun y => FIn true x y (BP P)) ex) ex) (hm : behindInMarks .NotIn b = false := by rfl) : WT c (.Compare a [.NotIn] [b] pos) ρ P ex := wt_bin (pt_cmpR op_notIn_sign (peU c a) (peU c b) hm) opd_notIn h
theorem we_ltS {a b : Expr} {pos : Pos} {P : D → Prop} {ex : Xd → Prop} (h : WE c a ρ (fun x => WE c b ρ (fun y => ∃ i j, x = .str i ∧ y = .str j ∧ P (.bl (decide (i.cps.toList < j.cps.toList)))) ex) ex) : WE c (.Compare a [.Lt] [b] pos) ρ P ex :=
  we_bin (F := fun x y P => ∃ i j, x = .str i ∧ y = .str j ∧ P (.bl (decide (i.cps.toList < j.cps.toList)))) (pe_cmpR op_lt_str (peU c a) (peU c b) (nomark _)) (fun R H vx vy x y P nd ok qx qy f Q k => by
    obtain ⟨i, j, rfl, rfl, h⟩ := f
    cases qx
    cases qy
    exact ⟨i, j, rfl, rfl, k _ _ (Fin.here ok nd (.bl _) h)⟩) h
/-- a text's method -/
theorem we_bmS {a e : Expr} {es : List Expr} {r : V → List V → Hp → VK → Prop} {F : Str → List D → (D → Prop) → Prop} {P : D → Prop} {ex : Xd → Prop} (hp : PE c.X e (tBM c.X.K "str" r (tU c a) (tAs c es)))
    (hF : ∀ R H z vs ds P, c.W.nd R → c.W.ok H → DqL c.W R H vs ds → F z ds P → ∀ Q : VK, (∀ v H', Fin c R H P v H' → Q v H') → r (.str z) vs H Q) (h : WE c a ρ (fun x => ∃ z, x = .str z ∧ WAs c ρ ex es (fun ds => F z ds P)) ex) : WE c e ρ P ex :=
  we_of hp fun σ H R E S p x => tU.mk h S p x fun vx H1 ⟨dx, g1, ok1, q1, z, e1, w1⟩ => by
    subst e1
    cases q1
    exact ⟨rfl, tAs.mk w1 (S.grow g1 ok1) p (x.grow g1 ok1) fun vs H2 ⟨ds, g2, ok2, q2, f2⟩ => hF _ _ _ _ _ _ ((S.grow g1 ok1).grow g2 ok2).ndr ok2 q2 f2 _ fun v H' f => (f.back g2 ok2).back g1 ok1⟩
theorem we_bmS0 {a e : Expr} {r : V → List V → Hp → VK → Prop} {F : Str → (D → Prop) → Prop} {P : D → Prop} {ex : Xd → Prop} (hp : PE c.X e (tBM0 c.X.K "str" r (tU c a)))
    (hF : ∀ R H z P, c.W.nd R → c.W.ok H → F z P → ∀ Q : VK, (∀ v H', Fin c R H P v H' → Q v H') → r (.str z) [] H Q) (h : WE c a ρ (fun x => ∃ z, x = .str z ∧ F z P) ex) : WE c e ρ P ex :=
  we_of hp fun σ H R E S p x => tU.mk h S p x fun vx H1 ⟨dx, g1, ok1, q1, z, e1, w1⟩ => by
    subst e1
    cases q1
    exact ⟨rfl, hF _ _ _ _ (S.grow g1 ok1).ndr ok1 w1 _ fun v H' f => f.back g1 ok1⟩
/-- sep.join(a list of texts) -/
theorem we_join {a b : Expr} {apos pos : Pos} {P : D → Prop} {ex : Xd → Prop} (h : WE c a ρ (fun x => ∃ z, x = .str z ∧ WE c b ρ (fun y => ∃ ys : List Str, y = .lst (ys.map D.str) ∧ (ys.map (·.length)).sum + ys.length * z.length ≤ 16777216 ∧ P (.str (Txt.join z ys))) ex) ex)
    (hp : PE c.X (.Call (.Attribute a "join" apos) [b] [] pos) (tBM c.X.K "str" (fun x xs H Q => ∃ a p, ∃ ys : List Str, x = .str a ∧ xs = [.ref p] ∧ (SqL c.X.K H p (ys.map V.str) ∨ SqT c.X.K H p (ys.map V.str)) ∧
    (ys.map (·.length)).sum + ys.length * a.length ≤ 16777216 ∧ Q (.str (Txt.join a ys)) H) (tU c a) (tAs c [b])) := by exact pe_bm PySem.F.plainAttrs_str PySem.F.slot_str_join PySem.F.type_str_join mt_join (peU _ _) (pa_cons (peU _ _) pa_nil)) :
    WE c (.Call (.Attribute a "join" apos) [b] [] pos) ρ P ex :=
  we_bmS (F := fun z ds P => ∃ ys : List Str, ds = [.lst (ys.map D.str)] ∧ (ys.map (·.length)).sum + ys.length * z.length ≤ 16777216 ∧ P (.str (Txt.join z ys))) hp (fun R H z vs ds P nd ok q f Q kk => by
    obtain ⟨ys, rfl, h1, h2⟩ := f
    cases q with
    | cons q1 q =>
      cases q1 with
      | lst r e q1 =>
        cases q
        rw [q1.strs] at e
        exact ⟨z, _, ys, rfl, rfl, .inl (sq_l e), h1, kk _ _ (Fin.here ok nd (.str _) h2)⟩) (WE.mono h fun d ⟨z, e, w⟩ => ⟨z, e, WE.mono w fun y ⟨ys, e1, e2, e3⟩ => ⟨ys, by rw [e1], e2, e3⟩⟩)
/-- text * number -/
def FMulS : D → D → (D → Prop) → Prop := fun x y P => ∃ z n, x = .str z ∧ y = .int n ∧ PySem.MulOk z n ∧ P (.str (Txt.mul z n))
def rMulS : R2 := fun x y H Q => ∃ z n, x = .str z ∧ y = .int n ∧ PySem.MulOk z n ∧ Q (.str (Txt.mul z n)) H
theorem op_mulS {X : Cx} : OpR X (binaryOp .Mult) rMulS := by
  intro pins s σ H x y v u Q I rx ry h
  obtain ⟨z, n, rfl, rfl, hz, q⟩ := h
  obtain ⟨t, rfl⟩ := rx
  obtain ⟨t', rfl⟩ := ry
  exact PySem.SB.mul hz fun t2 k => ⟨.str _, H, I.tok _, ⟨_, rfl⟩, q⟩
theorem we_mulS {a b : Expr} {pos : Pos} {P : D → Prop} {ex : Xd → Prop} (h : WE c a ρ (fun x => WE c b ρ (fun y => FMulS x y P) ex) ex) : WE c (.BinOp a .Mult b pos) ρ P ex :=
  we_bin (pe_op op_mulS (peU c a) (peU c b)) (fun R H vx vy x y P nd ok qx qy f Q k => by
    obtain ⟨z, n, rfl, rfl, hz, h⟩ := f
    cases qx
    cases qy
    exact ⟨z, n, rfl, rfl, hz, k _ _ (Fin.here ok nd (.str _) h)⟩) h
/-! ### slices -/
def WO (c : Cy cls) (ρ : Rho) (ex : Xd → Prop) : Option Expr → (Option Int → Prop) → Prop
  | none, P => P none
  | some e, P => WE c e ρ (fun d => ∃ i, d = .int i ∧ P (some i)) ex
def tUO (c : Cy cls) : Option Expr → TO
  | none => tNoPart
  | some e => tPart (tU c e)
theorem poU (c : Cy cls) : ∀ o, PO c.X o (tUO c o)
  | none => po_none
  | some e => po_some (peU c e)
theorem tUO.mk {ex : Xd → Prop} {E : XK} {o : Option Expr} {P : Option Int → Prop} {Q : Option Int → Hp → Prop} (w : WO c ρ ex o P) (S : Sl c R H σ ρ) (p : Pas c.X σ E) (x : ExOk c R H E ex) (k : ∀ i H', Gr c.W H H' → c.W.ok H' → P i → Q i H') : tUO c o σ H Q := by
  cases o with
  | none => exact k none H Gr.refl S.ok w
  | some e =>
    refine tU.mk w S p x fun v H1 ⟨d, g, ok, q, i, e1, h⟩ => ?_
    subst e1
    cases q
    exact ⟨i, rfl, k _ _ g ok h⟩
/-- a part of a list, of a text -/
theorem we_slice {r : V → Option Int → Option Int → Hp → VK → Prop} {F : D → Option Int → Option Int → (D → Prop) → Prop} {e : Expr} {lo hi : Option Expr} {p2 pos : Pos} {P : D → Prop} {ex : Xd → Prop} (hr : SlR c.X r)
    (hF : ∀ R H v d l u P, c.W.nd R → c.W.ok H → Dq c.W R H v d → F d l u P → ∀ Q : VK, (∀ v H', Fin c R H P v H' → Q v H') → r v l u H Q) (h : WE c e ρ (fun x => WO c ρ ex lo (fun l => WO c ρ ex hi (fun u => F x l u P))) ex) : WE c (.Subscript e (.Slice lo hi none p2) pos) ρ P ex :=
  we_of (pe_slice hr (peU c e) (poU c lo) (poU c hi)) fun σ H R E S p x => tU.mk h S p x fun v H1 ⟨d, g1, ok1, q1, w1⟩ =>
    have S1 := S.grow g1 ok1
    tUO.mk w1 S1 p (x.grow g1 ok1) fun l H2 g2 ok2 w2 =>
      have S2 := S1.grow g2 ok2
      tUO.mk w2 S2 p ((x.grow g1 ok1).grow g2 ok2) fun u H3 g3 ok3 f =>
        hF _ _ _ _ _ _ _ (S2.grow g3 ok3).ndr ok3 ((q1.grow S1.ndr g2).grow S2.ndr g3) f _ fun v H' f => ((f.back g3 ok3).back g2 ok2).back g1 ok1
theorem DqL.cutV {W : Wd cls} {vs : List V} {ds : List D} (q : DqL W R H vs ds) (lo hi : Option Int) : DqL W R H (L2.cutV vs lo hi) ((ds.drop (HT.sIx ds.length 0 lo)).take (HT.sIx ds.length ds.length hi - HT.sIx ds.length 0 lo)) := by
  unfold L2.cutV
  rw [q.length]
  exact DqL.take _ (DqL.drop _ q)
def cutD (ds : List D) (lo hi : Option Int) : List D := (ds.drop (HT.sIx ds.length 0 lo)).take (HT.sIx ds.length ds.length hi - HT.sIx ds.length 0 lo)
theorem we_sliceL {e : Expr} {lo hi : Option Expr} {p2 pos : Pos} {P : D → Prop} {ex : Xd → Prop} (h : WE c e ρ (fun x => ∃ ds, x = .lst ds ∧ WO c ρ ex lo (fun l => WO c ρ ex hi (fun u => P (.lst (cutD ds l u))))) ex) : WE c (.Subscript e (.Slice lo hi none p2) pos) ρ P ex :=
  we_slice (F := fun d l u P => ∃ ds, d = .lst ds ∧ P (.lst (cutD ds l u))) sl_list (fun R H v d l u P nd ok q f Q k => by
    obtain ⟨ds, rfl, h⟩ := f
    cases q with
    | lst r e q => exact ⟨_, _, rfl, sq_l e, fun p hp => k _ _ (Fin.new ok hp (.lst (.inr hp) upd_same (DqL.up (c := c) hp (q.cutV l u))) h)⟩) (WE.mono h fun d ⟨ds, e, w⟩ => by
    subst e
    cases lo <;> cases hi <;> first
      | exact ⟨_, rfl, w⟩
      | exact WE.mono w fun d ⟨i, e, w⟩ => ⟨i, e, _, rfl, w⟩
      | exact WE.mono w fun d ⟨i, e, w⟩ => ⟨i, e, WE.mono w fun d ⟨i, e, w⟩ => ⟨i, e, _, rfl, w⟩⟩)
theorem we_sliceS {e : Expr} {lo hi : Option Expr} {p2 pos : Pos} {P : D → Prop} {ex : Xd → Prop} (h : WE c e ρ (fun x => ∃ z, x = .str z ∧ z.length ≤ sizeLine ∧ WO c ρ ex lo (fun l => WO c ρ ex hi (fun u => P (.str (cutS z l u))))) ex) : WE c (.Subscript e (.Slice lo hi none p2) pos) ρ P ex :=
  we_slice (F := fun d l u P => ∃ z, d = .str z ∧ z.length ≤ sizeLine ∧ P (.str (cutS z l u))) sl_str (fun R H v d l u P nd ok q f Q k => by
    obtain ⟨z, rfl, hz, h⟩ := f
    cases q
    exact ⟨z, rfl, hz, k _ _ (Fin.here ok nd (.str _) h)⟩) (WE.mono h fun d ⟨z, e, hz, w⟩ => by
    subst e
    cases lo <;> cases hi <;> first
      | exact ⟨_, rfl, hz, w⟩
      | exact WE.mono w fun d ⟨i, e, w⟩ => ⟨i, e, _, rfl, hz, w⟩
      | exact WE.mono w fun d ⟨i, e, w⟩ => ⟨i, e, WE.mono w fun d ⟨i, e, w⟩ => ⟨i, e, _, rfl, hz, w⟩⟩)
end
end Vl
end
section
set_option maxHeartbeats 4000000
namespace Vl
open PySem PySem.Spec PyProof.Rows L2
variable {cls : Nat → Addr}
section
variable {W : Wd cls} {R : Addr → Prop} {H : Hp}
theorem DqF.zip : ∀ (fl : List Str) {vs : List V} {ds : List D}, DqL W R H vs ds → DqF W R H (fl.zip vs) (fl.zip ds)
  | [], _, _, _ => .nil
  | _ :: _, _, _, .nil => .nil
  | f :: fl, _, _, .cons q r => .cons q (DqF.zip fl r)
theorem DqF.append : ∀ {fs gs : List (Str × V)} {ds es : List (Str × D)}, DqF W R H fs ds → DqF W R H gs es → DqF W R H (fs ++ gs) (ds ++ es)
  | _, _, _, _, .nil, s => s
  | _, _, _, _, .cons q r, s => .cons q (r.append s)
theorem DqF.reverse : ∀ {fs : List (Str × V)} {ds : List (Str × D)}, DqF W R H fs ds → DqF W R H fs.reverse ds.reverse
  | _, _, .nil => .nil
  | _, _, .cons q r => by
    rw [List.reverse_cons, List.reverse_cons]
    exact r.reverse.append (.cons q .nil)
end
/-! ### errors: the making of one -/
/-- what an error's __init__ does: a field for each parameter, in their order -/
def spX (C : Addr) (fl : List Str) : Sp := fun vs H Q _ => ∃ (a : Addr) (ys : List V), vs = .ref a :: ys ∧ ys.length = fl.length ∧ H a = some (exo a C none) ∧
  ∀ dx H2, H dx = none → dx ≠ a → (∀ b, b ≠ a → b ≠ dx → H2 b = H b) → H2 a = some (exo a C (some dx)) → H2 dx = some (exd dx (fl.zip ys).reverse) → Q .non H2
/-- an error class of the program: its name, its number, its fields -/
structure Er (P : Program) (w : World) (K : PySem.W.Frag) (mg : Str → Option Value) (base : Heap) (cls : Nat → Addr) (x : Str) (k : Nat) (fl : List Str) : Prop where
  o : OexC K (cls k)
  nm : mg x = some (.ref (cls k))
  ini : ∃ fI fd ps, PySem.W.findIn K (.ref (cls k)) "__init__" = some (some (.ref fI)) ∧ PySem.W.typeIn K (.ref fI) = some (.type "function") ∧ FnOk P w K mg base (L2N.CX P w) 1 fI fd ps (spX (cls k) fl) ∧ Binds K fd ps []
abbrev ErX (X : Cx) (cls : Nat → Addr) (x : Str) (k : Nat) (fl : List Str) : Prop := Er X.prog X.w X.K X.mg X.base cls x k fl
section
variable {P : Program} {w : World} {K : PySem.W.Frag} {mg : Str → Option Value} {base : Heap}
theorem xinit1 {x qual : Str} {st : Stmt} {f C : Addr} {fd : FuncData} {y fn : Str} {p1 p2 p3 p4 : Pos} (F : Fun K x qual st f fd) (S : FnScope ["self", y] ["self", y] (defScope st)) (T : OexC K C) (hno : PySem.W.findIn K (.ref C) fn = some none)
    (hb : defBody st = [.Assign [.Attribute (.Name "self" p1) fn p2] (.Name y p3) p4]) (hd : (y == ("__debug__" : Str)) = false := by decide) (hcd : (y == ("__classdict__" : Str)) = false := by decide) :
    FnOk P w K mg base (L2N.CX P w) 1 f fd ["self", y] (spX C [fn]) := by
  refine okN F S (fun vs H Q E h => ?_) (fun cdv A outer s H vs Q E hr h => ?_)
  · obtain ⟨a, ys, rfl, hl, _⟩ := h
    simp only [List.length_cons, hl, List.length_nil]
  · obtain ⟨a, ys, rfl, hl, ha, k⟩ := h
    rw [hb]
    match ys, hl with
    | [v], _ =>
      have v0 : Vis (envOfC qual (defScope st) s.heap.objs.size f cdv).scope "self" := (S.par "self" (List.Mem.head _)).elim .inl fun z => .inr (.inl z)
      have v1 : Vis (envOfC qual (defScope st) s.heap.objs.size f cdv).scope y := (S.par y (List.Mem.tail _ (List.Mem.head _))).elim .inl fun z => .inr (.inl z)
      refine ⟨_, pss_one (ps_ost (pe_var (i := 0) rfl v0) (pe_var (i := 1) rfl v1 hd hcd)), v, rfl, .ref a, rfl, a, C, rfl, T, hno, .inl ⟨ha, fun dx hn hne => ?_⟩⟩
      refine k dx _ hn hne (fun b h1 h2 => ?_) upd_same ?_
      · rw [upd_ne h1, upd_ne h2]
      · rw [upd_ne hne, upd_same]
        rfl
end
section
variable {c : Cy cls} {R : Addr → Prop} {H H' : Hp} {σ : L2.St} {ρ : Rho}
/-- e makes an exception with Q -/
structure WMk (c : Cy cls) (e : Expr) (ρ : Rho) (Q : Xd → Prop) (ex : Xd → Prop) : Prop where
  run : ∀ (pins : List (Addr × Obj)) (s : Shared) (σ : L2.St) (H : Hp) (R : Addr → Prop) (E : XK), Inv c.X pins σ H s → Sl c R H σ ρ → Pas c.X σ E → ExOk c R H E ex →
    wpAny (model c.X.prog c.X.w) c.X.A (eval e c.X.env) (L2N.MkP c.X pins σ fun k d H' => ∃ x, Gr c.W H H' ∧ c.W.ok H' ∧ ExcAt c.W (Nw R H) H' k d x ∧ Q x) c.X.xe s
theorem mkp_imp {X : Cx} {pins : List (Addr × Obj)} {Q Q' : XK} {u : Value} {s' : Shared} (h : L2N.MkP X pins σ Q u s') (k : ∀ c d H, Q c d H → Q' c d H) : L2N.MkP X pins σ Q' u s' := by
  obtain ⟨a, oe, vs, sI, H', c', d, h1, h2, h3, h4, h5, h6, h7, h8, h9, h10, h11, h12, h13⟩ := h
  exact ⟨a, oe, vs, sI, H', c', d, h1, h2, h3, h4, h5, h6, h7, h8, h9, h10, h11, h12, k _ _ _ h13⟩
theorem ws_raise {e : Expr} {pos : Pos} {p : Po} (h : WMk c e ρ (p.ex ρ) (p.ex ρ)) (hc : c.X.calm = true := by rfl) : WS c (.Raise (some e) none pos) ρ p := ⟨fun pins s σ H R Ds E I S ps en x => by
  have pm : L2N.PMk c.X e (fun σ' H' Q => ∃ R' E', Sl c R' H' σ' ρ ∧ Pas c.X σ' E' ∧ ExOk c R' H' E' (p.ex ρ) ∧ ∀ k d H2 y, Gr c.W H' H2 → c.W.ok H2 → ExcAt c.W (Nw R' H') H2 k d y → p.ex ρ y → Q k d H2) := by
    intro pins' s' σ' H' Q I' ⟨R', E', S', pa, xo, kk⟩
    exact thn (h.run pins' s' σ' H' R' E' I' S' pa xo) fun u s2 hu => mkp_imp hu fun k d H2 ⟨y, g, ok, a, hy⟩ => kk k d H2 y g ok a hy
  exact (L2N.ps_raise hc ps pm).run pins s σ H Ds I ⟨R, E σ, S, ps.at σ, x.at S, fun k d H2 y g ok a hy => x (Nw R H) H2 σ ρ y k d (S.grow g ok) a hy⟩⟩
theorem we_mkx {x : Str} {p pos : Pos} {e : Expr} {es : List Expr} {k : Nat} {fl : List Str} {Q : Xd → Prop} {ex : Xd → Prop} (T : ErX c.X cls x k fl) (hr : Room 2 c.X.A)
    (h : WAs c ρ ex (e :: es) (fun ds => Q ⟨k, (fl.zip ds).reverse⟩)) (hfl : (e :: es).length = fl.length := by rfl) (hsz : fl.length ≤ 1000 := by decide) (hg : Gl c.X x := by rfl) (ha : PA c.X (e :: es) (tAs c (e :: es)) := by (repeat (first | exact pa_nil | refine pa_cons (peU _ _) ?_))) (hdb : (x == ("__debug__" : Str)) = false := by decide)
    (he : starEach (e :: es) c.X.env = (false, eval e c.X.env) :: starEach es c.X.env := by rfl) (hpl : (backTo pos (starEach es c.X.env)).any (·.1) = false := by rfl) : WMk c (.Call (.Name x p) (e :: es) [] pos) ρ Q ex := by
  refine ⟨fun pins s σ H R E I S pa y => ?_⟩
  obtain ⟨fI, fd, prs, iC, tI, F1, hb⟩ := T.ini
  obtain ⟨_, _, _, _, bm, _, _, _, _, _, _, _, _, _, _, hC, hbm⟩ := T.o.cls
  refine wpAny_Call_Name_kw (ld_glob I hg T.nm ?_ hdb)
  have arg := ha.run pos pins s σ H _ I (tAs.mk h.len S pa y fun vs H1 f => f)
  refine PySem.W.callWith_K (h₀ := c.X.base) I.ok.mod.kin T.o.kC (thn arg fun us s1 ⟨vs, H1, I1, rv, ds, g1, ok1, q1, hQ, hl⟩ => ⟨I1.kIn, ?_⟩) he hpl
  obtain ⟨hp, gn, dr, tk, os⟩ := s1
  have hvl : vs.length = fl.length := by rw [q1.length, hl, hfl]
  have big : hp.objs.size ≤ hp.objs.size + 1 := Nat.le_succ _
  have new : H1 (hp.objs.size + 1) = none := I1.hok.fresh big
  have keep : ∀ b o, hp.get? b = some o → ((hp.push (PySem.W.kdv_tup us)).push (PySem.HandSPX.excO (cls k) hp.objs.size)).get? b = some o := fun b o z => Heap.get?_push_of_some _ (Heap.get?_push_of_some _ z)
  have at_ : ((hp.push (PySem.W.kdv_tup us)).push (PySem.HandSPX.excO (cls k) hp.objs.size)).get? (hp.objs.size + 1) = some (PySem.HandSPX.excO (cls k) hp.objs.size) := by heap_get
  have I2 : Inv c.X pins σ (upd H1 (hp.objs.size + 1) (exo (hp.objs.size + 1) (cls k) none)) ⟨(hp.push (PySem.W.kdv_tup us)).push (PySem.HandSPX.excO (cls k) hp.objs.size), gn, dr, tk, os⟩ :=
    I1.laid (t' := tk) (a := hp.objs.size + 1) keep big (exo_ok at_)
  have rv2 : Vals (V.ref (hp.objs.size + 1) :: vs) (Value.ref (hp.objs.size + 1) :: us) := .cons rfl rv
  have sp : spX (cls k) fl (V.ref (hp.objs.size + 1) :: vs) (upd H1 (hp.objs.size + 1) (exo (hp.objs.size + 1) (cls k) none))
      (fun v H2 => v = .non ∧ ∃ (d : Addr) (fs : List (Str × V)), H2 (hp.objs.size + 1) = some (exo (hp.objs.size + 1) (cls k) (some d)) ∧ H2 d = some (exd d fs) ∧ H1 d = none ∧
        ∃ x, Gr c.W H (upd (del H2 (hp.objs.size + 1)) d (.xd fs)) ∧ c.W.ok (upd (del H2 (hp.objs.size + 1)) d (.xd fs)) ∧ ExcAt c.W (Nw R H) (upd (del H2 (hp.objs.size + 1)) d (.xd fs)) (.ref (cls k)) (some d) x ∧ Q x) (fun _ _ _ => False) := by
    refine ⟨_, vs, rfl, hvl, upd_same, fun dx H2 hn hne same e1 e2 => ⟨rfl, dx, _, e1, e2, ?_, ⟨k, (fl.zip ds).reverse⟩, ?_⟩⟩
    · rw [upd_ne hne] at hn
      exact hn
    · rw [upd_ne hne] at hn
      have sm : Same H1 (upd (del H2 (hp.objs.size + 1)) dx (.xd (fl.zip vs).reverse)) := fun b o z => by
        have n1 := ne_of_none z new
        have n2 := ne_of_none z hn
        rw [upd_ne n2, del_ne n1, same b n1 n2, upd_ne n1]
        exact z
      refine ⟨g1.trans (Gr.of_same sm), ok_same ok1 sm, ⟨rfl, dx, _, rfl, upd_same, .inr (none_back ok1 g1 hn), ?_⟩, hQ⟩
      exact (DqF.zip fl (q1.mono (fun _ z => z) fun a o _ z => sm a o z)).reverse
  have hln : (Value.ref (hp.objs.size + 1) :: us ++ []).length = prs.length := by
    have z := F1.len _ _ _ _ sp
    rw [List.append_nil, ← z]
    exact rv2.length.symm
  have hus : us.length ≤ sizeLine := by
    have z : vs.length = us.length := Paired.length rv
    rw [← z, hvl]
    exact Nat.le_trans hsz (by rw [sizeLine_eq]; omega)
  have b2 := hb ⟨(hp.push (PySem.W.kdv_tup us)).push (PySem.HandSPX.excO (cls k) hp.objs.size), gn, dr, tk, os⟩ (Value.ref (hp.objs.size + 1) :: us) I2.kIn hln
  rw [List.append_nil] at b2
  refine wpAny_call (PySem.HandSPX.call_own F.excBase_ValueError (fun Y => PySem.HandSPX.refsVE_contains Y bm hbm) (I1.kIn _ _ hC) (PySem.W.looks_findIn I1.kIn iC) (fun me => PySem.W.bind_fn I1.kIn me tI) hus
    (codeAny_mono (F1.run _ c.X.stack _ _ ⟨Value.ref (hp.objs.size + 1) :: us, []⟩ (Value.ref (hp.objs.size + 1) :: us) _ _ (fun _ _ _ => False) (hr.make (cls k) us []) (I2.env0.make (cls k) us []) b2 rv2 sp) fun r s' done => ?_))
  rcases r with er | fl'
  · obtain ⟨_, _, _, _, _, _, _, _, _, _, _, _, no⟩ := done
    exact False.elim no
  · cases fl' with
    | ret u =>
      obtain ⟨v, H2, eos, bare2, un2, hok2, rv', ev, d, fs, ea, ed, hd1, fin⟩ := done
      subst ev
      obtain ⟨h2, g2, d2, t2, os'⟩ := s'
      obtain ⟨t0, G, J, kG, ge, hoe, na⟩ := mk_end0 (d2 := d2) (t2 := t2) I1 big keep un2 hok2 eos bare2 ea ed hd1
      exact ⟨rv', _, _, _, ⟨G, g2, d2, t2, os'⟩, _, .ref (cls k), some d, rfl, J, kG, ge, hoe, ⟨rfl, rfl, fun ws e => by cases e; rfl⟩, rfl, rfl, na, rfl, bare2, raises_own T.o.exC T.o.tyC, fin⟩
    | next => exact False.elim done
    | brk => exact False.elim done
    | cont => exact False.elim done
end
end Vl
end
section
set_option maxHeartbeats 4000000
namespace Vl
open PySem PySem.Spec PyProof.Rows L2
variable {cls : Nat → Addr}
/-! ### objects of the program's classes -/
/-- a method of the class number k: its promise takes the object first -/
structure Dm (P : Program) (w : World) (K : PySem.W.Frag) (mg : Str → Option Value) (base : Heap) (cls : Nat → Addr) (k : Nat) (m : Str) (j : Nat) (ps : List Str) (fs : FS) : Prop where
  ex : ∃ f fd, FnOk P w K mg base (L2N.CX P w) j f fd ps (spOf cls fs) ∧ Meth K (cls k) m f ∧ PySem.W.fnIn K f = true ∧ Binds K fd ps []
abbrev DmX (X : Cx) (cls : Nat → Addr) (k : Nat) (m : Str) (j : Nat) (ps : List Str) (fs : FS) : Prop := Dm X.prog X.w X.K X.mg X.base cls k m j ps fs
section
variable {c : Cy cls} {R : Addr → Prop} {H H' : Hp} {σ : L2.St} {ρ : Rho}
theorem Dq.objAt {W : Wd cls} {v : V} {k : Nat} {gs : List (Str × D)} (q : Dq W R H v (.obj k gs)) : ∃ a dx fs, v = .ref a ∧ H a = some (.ins (cls k) dx fs) ∧ DqF W R H fs gs := by
  cases q with
  | obj r e q => exact ⟨_, _, _, rfl, e, q⟩
/-- o.f, a field -/
theorem we_fld {e : Expr} {f : Str} {pos : Pos} {k : Nat} {P : D → Prop} {ex : Xd → Prop} (T : Cls c.X.K (cls k)) (n : NoAttr c.X.K (cls k) f) (h : WE c e ρ (fun d => ∃ gs v, d = .obj k gs ∧ gs.lookup f = some v ∧ P v) ex)
    (hb : attributeBase e f c.X.env (eval e c.X.env) = eval e c.X.env := by rfl) : WE c (.Attribute e f pos) ρ P ex :=
  we_of (pe_fld (peU c e) hb) fun σ H R E S p x => tU.mk h S p x fun v H1 ⟨d, g1, ok1, q1, gs, y, e1, hl, hp⟩ => by
    subst e1
    obtain ⟨a, dx, fs, rfl, ea, qf⟩ := q1.objAt
    obtain ⟨z, h1, h2⟩ := qf.lookup hl
    exact ⟨a, cls k, dx, fs, z, rfl, ea, T, n, h1, y, g1, ok1, h2, hp⟩
/-- a def is run somewhere below the body -/
theorem run_below {pins : List (Addr × Obj)} {s : Shared} {A1 : Around} {k : Nat} {f : Addr} {fd : FuncData} {ps : List Str} {sp : Sp} {E : XK} {Q : VK} {us : List Value} {vs : List V} (F : FnOk c.X.prog c.X.w c.X.K c.X.mg c.X.base (L2N.CX c.X.prog c.X.w) k f fd ps sp)
    (room : Room k A1) (fr : A1.frames = c.X.A.frames) (hb : Binds c.X.K fd ps []) (pa : Pas c.X σ E) (I : Inv c.X pins σ H s) (r : Vals vs us) (h : sp vs H Q E) :
    wpAny (model c.X.prog c.X.w) A1 (call (.ref f) us) (EP c.X pins σ Q) c.X.xe s := by
  have el : (us ++ []).length = ps.length := by
    rw [List.append_nil, ← r.length]
    exact F.len _ _ _ _ h
  have bd := hb s us I.kIn el
  rw [List.append_nil] at bd
  have env : Env0 c.X.prog c.X.w c.X.K c.X.mg c.X.base A1 c.X.stack s H := by
    have z := I.env0
    exact { frames := by rw [fr]; exact z.frames, mod := z.mod, bs := z.bs, bsz := z.bsz, funs := z.funs, frf := z.frf, hok := z.hok, bare := z.bare }
  refine wpAny_call (codeAny_mono (F.run A1 c.X.stack s H ⟨us, []⟩ us vs Q E room env bd r h) fun res s' done => ?_)
  rcases res with er | fl
  · exact pa pins H s er s' I done
  · cases fl with
    | ret u => exact I.after done
    | next => exact False.elim done
    | brk => exact False.elim done
    | cont => exact False.elim done
/-- o.m(e, ..) -/
theorem we_meth {o e : Expr} {es : List Expr} {m : Str} {apos pos : Pos} {k j : Nat} {ps : List Str} {fs : FS} {P : D → Prop} {ex : Xd → Prop} {pl : Sem Bool} (T : Cls c.X.K (cls k)) (d : DmX c.X cls k m j ps fs) (hr : Room j c.X.A)
    (h : WE c o ρ (fun x => ∃ gs, x = .obj k gs ∧ gs.lookup m = none ∧ WAs c ρ ex (e :: es) (fun ds => fs (x :: ds) P ex)) ex)
    (ha : PA c.X (e :: es) (tAs c (e :: es)) := by (repeat (first | exact pa_nil | refine pa_cons (peU _ _) ?_)))
    (hst : starEach (e :: es) c.X.env = (false, eval e c.X.env) :: starEach es c.X.env := by rfl) (hpl : (backTo pos (starEach es c.X.env)).any (·.1) = false := by rfl)
    (ht : eval (.Call (.Attribute o m apos) (e :: es) [] pos) c.X.env = (do
      let ov ← eval o c.X.env
      standAt apos.atName
      let (f, first) ← holding [ov] (getMethod ov m pl)
      callWith pos f first (backTo pos (starEach (e :: es) c.X.env)) (backToKw pos (keywordEach [] c.X.env))) := by rfl) : WE c (.Call (.Attribute o m apos) (e :: es) [] pos) ρ P ex := by
  refine ⟨fun pins s σ H R E I S pa y => ?_⟩
  obtain ⟨f, fd, F, hm, _, hb⟩ := d.ex
  refine PySem.W.methodCall_KW (pl := pl) (thn (h.run pins s σ H R E I S pa y) fun u s1 ⟨v, H1, I1, rv, dd, g1, ok1, q1, gs, e1, hl, w1⟩ => ?_) ht
  subst e1
  obtain ⟨a, dx, vf, rfl, ea, qf⟩ := q1.objAt
  cases (show u = Value.ref a from rv)
  refine getmeth_ok I1 ea T hm (qf.lookup_none hl) ?_
  have S1 := S.grow g1 ok1
  have targ : tAs c (e :: es) σ H1 (fun vs H2 => spOf cls fs (.ref a :: vs) H2 (Fin c R H P) E) := tAs.mk w1 S1 pa (y.grow g1 ok1) fun vs H2 ⟨ds, g2, ok2, q2, hf⟩ =>
    ⟨c.W, Nw (Nw R H) H1, _, P, ex, (S1.grow g2 ok2).ndr, ok2, .cons (q1.grow S1.ndr g2) q2, hf, fun v d H3 g3 ok3 q3 h3 => Fin.back g1 ok1 (Fin.back g2 ok2 ⟨d, g3, ok3, q3, h3⟩), (y.grow g1 ok1).grow g2 ok2⟩
  refine PySem.W.callWith_K (first := [.ref a]) (h₀ := c.X.base) I.ok.mod.kin hm.kp (thn (ha.run pos pins s1 σ H1 _ I1 targ) fun us s2 ⟨vs, H2, I2, r2, sp⟩ => ⟨I2.kIn, ?_⟩) hst hpl
  exact run_below (us := .ref a :: us) (vs := .ref a :: vs) F hr rfl hb pa I2 (.cons rfl r2) sp
theorem we_meth0 {o : Expr} {m : Str} {apos pos : Pos} {k j : Nat} {ps : List Str} {fs : FS} {P : D → Prop} {ex : Xd → Prop} {pl : Sem Bool} (T : Cls c.X.K (cls k)) (d : DmX c.X cls k m j ps fs) (hr : Room j c.X.A)
    (h : WE c o ρ (fun x => ∃ gs, x = .obj k gs ∧ gs.lookup m = none ∧ fs [x] P ex) ex)
    (ht : eval (.Call (.Attribute o m apos) [] [] pos) c.X.env = (do
      let ov ← eval o c.X.env
      standAt apos.atName
      let (f, first) ← holding [ov] (getMethod ov m pl)
      callWith pos f first (backTo pos (starEach [] c.X.env)) (backToKw pos (keywordEach [] c.X.env))) := by rfl) : WE c (.Call (.Attribute o m apos) [] [] pos) ρ P ex := by
  refine ⟨fun pins s σ H R E I S pa y => ?_⟩
  obtain ⟨f, fd, F, hm, _, hb⟩ := d.ex
  refine PySem.W.methodCall_KW (pl := pl) (thn (h.run pins s σ H R E I S pa y) fun u s1 ⟨v, H1, I1, rv, dd, g1, ok1, q1, gs, e1, hl, w1⟩ => ?_) ht
  subst e1
  obtain ⟨a, dx, vf, rfl, ea, qf⟩ := q1.objAt
  cases (show u = Value.ref a from rv)
  refine getmeth_ok I1 ea T hm (qf.lookup_none hl) ?_
  have S1 := S.grow g1 ok1
  exact PySem.W.callWith_K0 (first := [.ref a]) I1.kIn hm.kp (run_below (us := [.ref a]) (vs := [.ref a]) F hr rfl hb pa I1 (.cons rfl .nil)
    ⟨c.W, Nw R H, _, P, ex, S1.ndr, ok1, .cons q1 .nil, w1, fun v d H3 g3 ok3 q3 h3 => Fin.back g1 ok1 ⟨d, g3, ok3, q3, h3⟩, y.grow g1 ok1⟩)
/-- a property; its getter raises nothing -/
structure Dp (P : Program) (w : World) (K : PySem.W.Frag) (mg : Str → Option Value) (base : Heap) (cls : Nat → Addr) (k : Nat) (m : Str) (j : Nat) (fs : FS) : Prop where
  ex : ∃ p f fd ps, FnOk P w K mg base (L2N.CX P w) j f fd ps (spOf cls fs) ∧ PropOf K (cls k) m p f ∧ Binds K fd ps []
theorem we_prop {e : Expr} {m : Str} {pos : Pos} {k j : Nat} {fs : FS} {P : D → Prop} {ex : Xd → Prop} (T : Cls c.X.K (cls k)) (d : Dp c.X.prog c.X.w c.X.K c.X.mg c.X.base cls k m j fs) (hr : Room (j + 1) c.X.A)
    (h : WE c e ρ (fun x => ∃ gs, x = .obj k gs ∧ fs [x] P (fun _ => False)) ex) (hab : attributeBase e m c.X.env (eval e c.X.env) = eval e c.X.env := by rfl) : WE c (.Attribute e m pos) ρ P ex := by
  refine ⟨fun pins s σ H R E I S pa y => ?_⟩
  obtain ⟨pr, f, fd, ps, F, hp, hb⟩ := d.ex
  refine attr_of hab (thn (h.run pins s σ H R E I S pa y) fun u s1 ⟨v, H1, I1, rv, dd, g1, ok1, q1, gs, e1, w1⟩ => ?_)
  subst e1
  obtain ⟨a, dx, vf, rfl, ea, qf⟩ := q1.objAt
  cases (show u = Value.ref a from rv)
  exact getprop_ok (E := E0) I1 ea T hp F hr hb .nil passN ⟨c.W, Nw R H, _, P, fun _ => False, (S.grow g1 ok1).ndr, ok1, .cons q1 .nil, w1, fun v d H3 g3 ok3 q3 h3 => Fin.back g1 ok1 ⟨d, g3, ok3, q3, h3⟩, fun _ _ _ _ _ _ _ z => z.elim⟩
end
end Vl
end
section
set_option maxHeartbeats 4000000
namespace Vl
open PySem PySem.Spec PyProof.Rows L2
variable {cls : Nat → Addr}
/-! ### __init__: the object that is made -/
abbrev FI := List D → (List (Str × D) → Prop) → (Xd → Prop) → Prop
/-- what an __init__ is worth: Hb is the heap ahead of the object -/
def spInit (cls : Nat → Addr) (k : Nat) (fi : FI) : Sp := fun vs H Q E => ∃ (W : Wd cls) (R : Addr → Prop) (Hb : Hp) (a dx : Addr) (ws : List V) (ds : List D) (rt : List (Str × D) → Prop) (ex : Xd → Prop),
  W.nd R ∧ W.ok Hb ∧ Hb a = none ∧ Hb dx = none ∧ dx ≠ a ∧ vs = .ref a :: ws ∧ H = upd (upd Hb dx (.own a)) a (.ins (cls k) dx []) ∧ DqL W R Hb ws ds ∧ fi ds rt ex ∧
  (∀ dx' fs gs H', Gr W Hb H' → W.ok H' → H' a = some (.ins (cls k) dx' fs) → DqF W (Nw R Hb) H' fs gs → rt gs → Q .non H') ∧ (∀ x kv d H', Gr W Hb H' → W.ok H' → ExcAt W (Nw R Hb) H' kv d x → ex x → E kv d H')
/-- the slots at the entry of an __init__ -/
def rhoI (N : List Str) (a : Addr) (k : Nat) (ds : List D) : Rho := some (.ob a k []) :: (rho0 N (.non :: ds)).tail
theorem Sl.startI {c : Cy cls} {N : List Str} {a dx : Addr} {k : Nat} {H : Hp} {vs : List V} {ds : List D} (nd : c.W.nd c.R0) (ok : c.W.ok c.H0) (ha : c.H0 a = none) (hd : c.H0 dx = none) (ne : dx ≠ a) (hH : H = upd (upd c.H0 dx (.own a)) a (.ins (cls k) dx []))
    (q : DqL c.W c.R0 c.H0 vs ds) : Sl c (Al c.R0 c.H0) H (L2.start N (.ref a :: vs)) (rhoI N a k ds) := by
  have sm : Same c.H0 H := fun b o e => by
    rw [hH, upd_ne (ne_of_none e ha), upd_ne (ne_of_none e hd)]
    exact e
  have hL : DqL c.W (Al c.R0 c.H0) H vs ds := q.mono2 fun b o r e => ⟨⟨r, fun z => by rw [e] at z; cases z⟩, sm b o e⟩
  have S0 := Sl.start (c := ⟨c.X, c.W, Al c.R0 c.H0, H⟩) (N := N) (vs := .non :: vs) (ds := .non :: ds) (fun b m z => nd b m z.1) (ok_same ok sm) (.cons .non hL)
  have tl : ∀ (i : Nat), (rhoI N a k ds)[i + 1]? = (rho0 N (.non :: ds))[i + 1]? := fun i => by
    unfold rhoI
    rw [List.getElem?_cons_succ, List.getElem?_tail]
  have ts : ∀ (i : Nat), (L2.start N (.ref a :: vs))[i + 1]? = (L2.start N (.non :: vs))[i + 1]? := fun i => by
    unfold L2.start
    simp only [List.map_cons, List.cons_append, List.getElem?_cons_succ, List.length_cons]
  exact {
    ndr := fun b m z => nd b m z.1
    ok := ok_same ok sm
    ok0 := c.W.some c.H0 ok
    gr := Gr.of_same sm
    sub := fun b z => .inl z.1
    len := by
      have z := S0.len
      unfold L2.start at z ⊢
      unfold rhoI
      simp only [List.map_cons, List.cons_append, List.length_cons, List.length_append, List.length_map, List.length_replicate, List.length_tail] at z ⊢
      omega
    val := fun i d e => by
      cases i with
      | zero => cases e
      | succ i =>
        rw [tl] at e
        rw [ts]
        exact S0.val (i + 1) d e
    exc := fun i d e => by
      cases i with
      | zero => cases e
      | succ i =>
        rw [tl] at e
        rw [ts]
        exact S0.exc (i + 1) d e
    lst := fun i d e => by
      cases i with
      | zero => cases e
      | succ i =>
        rw [tl] at e
        obtain ⟨b, vs', h1, h2, h3, h4, h5⟩ := S0.lst (i + 1) d e
        exact absurd (h3.symm.trans h4) (fun z => nomatch z)
    sep := fun i j d1 d2 b hij e => by
      cases i with
      | zero => cases e
      | succ i =>
        rw [tl] at e
        obtain ⟨b, vs', h1, h2, h3, h4, h5⟩ := S0.lst (i + 1) d1 e
        exact absurd (h3.symm.trans h4) (fun z => nomatch z)
    ob := fun i b kk fs e => by
      cases i with
      | zero =>
        cases e
        exact ⟨dx, [], rfl, fun z => z.2 ha, ha, by rw [hH, upd_same], .nil⟩
      | succ i =>
        rw [tl] at e
        obtain ⟨dz, vs', h1, h2, h3, h4, h5⟩ := S0.ob (i + 1) b kk fs e
        exact absurd (h3.symm.trans h4) (fun z => nomatch z)
    dc := fun i d e => by
      cases i with
      | zero => cases e
      | succ i =>
        rw [tl] at e
        obtain ⟨b, vs', h1, h2, h3, h4, h5⟩ := S0.dc (i + 1) d e
        exact absurd (h3.symm.trans h4) (fun z => nomatch z)
    sepd := fun i j d1 d2 b hij e => by
      cases i with
      | zero => cases e
      | succ i =>
        rw [tl] at e
        obtain ⟨b, vs', h1, h2, h3, h4, h5⟩ := S0.dc (i + 1) d1 e
        exact absurd (h3.symm.trans h4) (fun z => nomatch z) }
section
variable {P : Program} {w : World} {K : PySem.W.Frag} {mg : Str → Option Value} {base : Heap}
theorem init_ok {x qual : Str} {st : Stmt} {f : Addr} {fd : FuncData} {N ps : List Str} {k j : Nat} {fi : FI} (F : Fun K x qual st f fd) (S : FnScope N ("self" :: ps) (defScope st)) (len : ∀ ds rt ex, fi ds rt ex → ds.length = ps.length)
    (body : ∀ (cdv : Value) (A : Around) (outer : List Env) (s : Shared) (H : Hp) (E : XK) (W : Wd cls) (R : Addr → Prop) (Hb : Hp) (a : Addr) (ds : List D) (rt : List (Str × D) → Prop) (ex : Xd → Prop), Room j (A.deeper (envOfC qual (defScope st) s.heap.objs.size f cdv)) → fi ds rt ex →
      WSs (⟨cxOf (L2N.CX P w) P w K mg base N qual (defScope st) f cdv A outer s H E, W, R, Hb⟩ : Cy cls) (defBody st) (rhoI N a k ds) { nx := fun ρ => ∃ gs, ρ[0]? = some (some (.ob a k gs)) ∧ rt gs, rt := fun _ _ => False, ex := fun _ => ex }) :
    FnOk P w K mg base (L2N.CX P w) (j + 1) f fd ("self" :: ps) (spInit cls k fi) := by
  refine okN F S (fun vs H Q E h => ?_) (fun cdv A outer s H vs Q E hr h => ?_)
  · obtain ⟨W, R, Hb, a, dx, ws, ds, rt, ex, _, _, _, _, _, rfl, _, q, h, _⟩ := h
    rw [List.length_cons, List.length_cons, q.length, len _ _ _ h]
  · obtain ⟨W, R, Hb, a, dx, ws, ds, rt, ex, nd, ok, ha, hd, ne, rfl, hH, q, h, k1, k2⟩ := h
    refine ⟨_, pssU (⟨cxOf (L2N.CX P w) P w K mg base N qual (defScope st) f cdv A outer s H E, W, R, Hb⟩ : Cy cls) _, rhoI N a k ds, Al R Hb, fun _ => E, { nx := fun ρ => ∃ gs, ρ[0]? = some (some (.ob a k gs)) ∧ rt gs, rt := fun _ _ => False, ex := fun _ => ex },
      Sl.startI nd ok ha hd ne hH q, L2N.takes_of rfl rfl rfl rfl, ⟨fun R' H' σ ρ S _ h => ?_, fun R' H' σ ρ v d S q h => h.elim, fun _ _ _ _ _ _ z => z.elim, fun _ _ _ _ _ _ z => z.elim⟩, fun R' H' σ ρ x kk d S a h => ?_, body cdv A outer s H E W R Hb a ds rt ex hr h⟩
    · obtain ⟨gs, e, hrt⟩ := h
      obtain ⟨dx', fs, h1, h2, h3, h4, h5⟩ := S.ob 0 a k gs e
      exact k1 dx' fs gs H' S.gr S.ok h4 (h5.wide S.sub) hrt
    · exact k2 x kk d H' S.gr S.ok (a.wide S.sub) h
end
/-- a class of the program that is made by its __init__ -/
structure Dk (P : Program) (w : World) (K : PySem.W.Frag) (mg : Str → Option Value) (base : Heap) (cls : Nat → Addr) (x : Str) (k j : Nat) (ps : List Str) (fi : FI) : Prop where
  nm : mg x = some (.ref (cls k))
  ex : ∃ f fd, FnOk P w K mg base (L2N.CX P w) j f fd ("self" :: ps) (spInit cls k fi) ∧ Mk K (cls k) f ∧ Binds K fd ("self" :: ps) []
abbrev DkX (X : Cx) (cls : Nat → Addr) (x : Str) (k j : Nat) (ps : List Str) (fi : FI) : Prop := Dk X.prog X.w X.K X.mg X.base cls x k j ps fi
section
variable {c : Cy cls} {R : Addr → Prop} {H H' : Hp} {σ : L2.St} {ρ : Rho}
/-- C(e, ..) -/
theorem we_make {x : Str} {p pos : Pos} {e : Expr} {es : List Expr} {k j : Nat} {ps : List Str} {fi : FI} {P : D → Prop} {ex : Xd → Prop} (d : DkX c.X cls x k j ps fi) (hr : Room (j + 1) c.X.A)
    (h : WAs c ρ ex (e :: es) (fun ds => fi ds (fun gs => P (.obj k gs)) ex)) (hg : Gl c.X x := by rfl) (ha : PA c.X (e :: es) (tAs c (e :: es)) := by (repeat (first | exact pa_nil | refine pa_cons (peU _ _) ?_)))
    (hdb : (x == ("__debug__" : Str)) = false := by decide) (he : starEach (e :: es) c.X.env = (false, eval e c.X.env) :: starEach es c.X.env := by rfl) (hpl : (backTo pos (starEach es c.X.env)).any (·.1) = false := by rfl) : WE c (.Call (.Name x p) (e :: es) [] pos) ρ P ex := by
  refine ⟨fun pins s σ H R E I S pa y => ?_⟩
  obtain ⟨f, fd, F, M, hb⟩ := d.ex
  refine wpAny_Call_Name_kw (ld_glob I hg d.nm ?_ hdb)
  have targ : tAs c (e :: es) σ H (fun vs H1 => FinL c R H (fun ds => fi ds (fun gs => P (.obj k gs)) ex) vs H1) := tAs.mk h S pa y fun vs H1 f => f
  refine PySem.W.callWith_K (h₀ := c.X.base) I.ok.mod.kin M.kp (thn (ha.run pos pins s σ H _ I targ) fun us s1 ⟨vs, H1, I1, rv, ds, g1, ok1, q1, hf⟩ => ⟨I1.kIn, ?_⟩) he hpl
  have n1 : H1 (s1.heap.objs.size + 1) = none := I1.hok.fresh (Nat.le_succ _)
  have n2 : H1 s1.heap.objs.size = none := I1.hok.fresh (Nat.le_refl _)
  have n3 : s1.heap.objs.size ≠ s1.heap.objs.size + 1 := Nat.ne_of_lt (Nat.lt_succ_self _)
  have sp : spInit cls k fi (.ref (s1.heap.objs.size + 1) :: vs) (upd (upd H1 s1.heap.objs.size (.own (s1.heap.objs.size + 1))) (s1.heap.objs.size + 1) (.ins (cls k) s1.heap.objs.size []))
      (fun v H2 => v = .non ∧ Fin c R H P (.ref (s1.heap.objs.size + 1)) H2) E :=
    ⟨c.W, Nw R H, H1, _, _, vs, ds, _, ex, (S.grow g1 ok1).ndr, ok1, n1, n2, n3, rfl, rfl, q1, hf, fun dx' fs gs H2 g2 ok2 ea qf hp => ⟨rfl, .obj k gs, g1.trans g2, ok2, .obj (nw_nw ok1 g1 _ (.inr n1)) ea (qf.wide (nw_nw ok1 g1)), hp⟩, y.grow g1 ok1⟩
  have I2 := Inv.made (C := cls k) I1
  have rv2 : Vals (V.ref (s1.heap.objs.size + 1) :: vs) (Value.ref (s1.heap.objs.size + 1) :: us) := .cons rfl rv
  have el : (Value.ref (s1.heap.objs.size + 1) :: us ++ []).length = (("self" : Str) :: ps).length := by
    have z := F.len _ _ _ _ sp
    rw [List.append_nil, ← rv2.length, z]
  have b2 := hb { s1 with heap := (s1.heap.push PySem.W.emptyDict).push (PySem.W.instObj (cls k) s1.heap.objs.size) } (Value.ref (s1.heap.objs.size + 1) :: us) I2.kIn el
  rw [List.append_nil] at b2
  refine wpAny_call (make_map (f := f) I1.kIn M.makes M.init (beq_iff_eq.mp M.fn) (codeAny_mono (F.run _ c.X.stack _ _ ⟨Value.ref (s1.heap.objs.size + 1) :: us, []⟩ (Value.ref (s1.heap.objs.size + 1) :: us) _ _ E (hr.make (cls k) us [])
    (I2.env0.make (cls k) us []) b2 rv2 sp) fun res s' done => ?_))
  rcases res with er | fl
  · exact pa pins _ _ er s' I2 done
  · cases fl with
    | ret u =>
      obtain ⟨v, H3, I3, rv3, ev, fin⟩ := I2.after done
      subst ev
      exact ⟨rv3, V.ref (s1.heap.objs.size + 1), H3, I3, rfl, fin⟩
    | next => exact False.elim done
    | brk => exact False.elim done
    | cont => exact False.elim done
/-- self.f = e, in the __init__ -/
def isOb : Option Sv → Bool
  | some (.ob _ _ _) => true
  | _ => false
def putFD (f : Str) (d : D) : List (Str × D) → List (Str × D)
  | [] => [(f, d)]
  | (g, x) :: r => if g = f then (g, d) :: r else (g, x) :: putFD f d r
theorem DqF.put {W : Wd cls} {f : Str} {v : V} {d : D} (q : Dq W R H v d) : ∀ {fs : List (Str × V)} {gs : List (Str × D)}, DqF W R H fs gs → DqF W R H (putF f v fs) (putFD f d gs)
  | _, _, .nil => .cons q .nil
  | _, _, .cons (f := g) q2 r => by
    unfold putF putFD
    by_cases h : g = f
    · rw [if_pos h, if_pos h]
      exact .cons q r
    · rw [if_neg h, if_neg h]
      exact .cons q2 (DqF.put q r)
theorem DqF.length {W : Wd cls} : ∀ {fs : List (Str × V)} {gs : List (Str × D)}, DqF W R H fs gs → fs.length = gs.length
  | _, _, .nil => rfl
  | _, _, .cons _ r => by rw [List.length_cons, List.length_cons, r.length]
theorem ws_fld (i : Nat) {x f : Str} {e : Expr} {p pos' pos : Pos} {a : Addr} {k : Nat} {gs : List (Str × D)} {po : Po} (T : Cls c.X.K (cls k)) (n : NoAttr c.X.K (cls k) f) (hN : c.X.N[i]? = some x) (hρ : ρ[i]? = some (some (.ob a k gs)))
    (h : WE c e ρ (fun d => po.nx (ρ.set i (some (.ob a k (putFD f d gs))))) (po.ex ρ)) (one : (ρ.eraseIdx i).all (fun o => !isOb o) = true := by rfl) (hl : gs.length < 1000 := by decide) (hv : Vis c.X.env.scope x := by first | exact Or.inl rfl | exact Or.inr (Or.inl rfl) | exact Or.inr (Or.inr rfl))
    (hs : swapsWith e (some (.Attribute (.Name x p) f pos')) pos.line c.X.env = pure false := by rfl) (hd : (x == ("__debug__" : Str)) = false := by decide) (hcd : (x == ("__classdict__" : Str)) = false := by decide) : WS c (.Assign [.Attribute (.Name x p) f pos'] e pos) ρ po :=
  ws_of (ps_fld (pe_var hN hv hd hcd) (peU c e) hs) fun σ H R Ds E S ps en xx => tU.mk h S (ps.at σ) (xx.at S) fun y H1 ⟨d, g1, ok1, q1, hp⟩ => by
    have S1 := S.grow g1 ok1
    obtain ⟨dx, vs, h1, h2, h3, h4, h5⟩ := S1.ob i a k gs hρ
    refine ⟨.ref a, h1, a, cls k, dx, vs, rfl, h4, T, n, by rw [h5.length]; exact hl, ?_⟩
    refine en.nx (Nw R H) _ σ _ (S1.mutOb hρ h4 (h5.put q1) fun j k' fs' e => ?_) ((Kp.grow S.ndr g1).trans (Kp.mut h2)) hp
    by_cases hj : j = i
    · exact hj
    · have m : some (Sv.ob a k' fs') ∈ ρ.eraseIdx i := List.mem_eraseIdx_iff_getElem?.mpr ⟨j, hj, e⟩
      have z := List.all_eq_true.mp one _ m
      cases z
end
end Vl
end
section
set_option maxHeartbeats 4000000
namespace Vl
open PySem PySem.Spec PyProof.Rows L2
variable {cls : Nat → Addr}
section
variable {c : Cy cls} {R : Addr → Prop} {H H' : Hp} {σ : L2.St} {ρ : Rho}
theorem passAll {X : Cx} {σ : L2.St} : Pas X σ E0 := fun pins H s e s' I z => passN pins σ H s e s' I z
/-- what a call of a def needs of an object first -/
structure ObM (c : Cy cls) (k : Nat) (m : Str) (j : Nat) (fs : FS) : Prop where
  ex : ∃ f fd ps, FnOk c.X.prog c.X.w c.X.K c.X.mg c.X.base (L2N.CX c.X.prog c.X.w) j f fd ps (spOf cls fs) ∧ Meth c.X.K (cls k) m f ∧ PySem.W.fnIn c.X.K f = true ∧ Binds c.X.K fd ps []
theorem Dm.obm {k : Nat} {m : Str} {j : Nat} {ps : List Str} {fs : FS} (d : DmX c.X cls k m j ps fs) : ObM c k m j fs := by
  obtain ⟨f, fd, a, b, e, g⟩ := d.ex
  exact ⟨f, fd, ps, a, b, e, g⟩
theorem spOf0 {fs : FS} {vs : List V} {ds : List D} {P : D → Prop} (nd : c.W.nd R) (ok : c.W.ok H) (q : DqL c.W R H vs ds) (h : fs ds P (fun _ => False)) {Q : VK} (k : ∀ v H', Fin c R H P v H' → Q v H') : spOf cls fs vs H Q E0 :=
  ⟨c.W, R, ds, P, fun _ => False, nd, ok, q, h, fun v d H' g ok' q' h' => k v H' ⟨d, g, ok', q', h'⟩, fun _ _ _ _ _ _ _ z => z.elim⟩
/-! ### len(o) -/
/-! ### o[i] -/
/-! ### o(e, ..) -/
/-! ### o == x -/
def rEqO (c : Cy cls) (k : Nat) (fs : FS) : R2 := fun x y H Q => ∃ a dx vf t, x = .ref a ∧ H a = some (.ins (cls k) dx vf) ∧ TyX c.X.K H y t ∧ PySem.W.notFirst c.X.K (cls k) t = true ∧ spOf cls fs [.ref a, y] H (fun v H' => ∃ b, v = .bl b ∧ Q (.bl b) H') E0
theorem op_eqO {k j : Nat} {fs : FS} (d : ObM c k "__eq__" j fs) (hr : Room j c.X.A) : OpR c.X (compareOp .Eq) (rEqO c k fs) := by
  intro pins s σ H x y v u Q I rx ry h
  obtain ⟨a, dx, vf, t, rfl, ea, ty, hn, sp⟩ := h
  obtain ⟨f, fd, ps, F, M, fi, hb⟩ := d.ex
  cases (show v = Value.ref a from rx)
  obtain ⟨mA, O, _⟩ := ins_get I.hok ea
  obtain ⟨od, J, _⟩ := O.look
  obtain ⟨m, hF⟩ := I.fr
  obtain ⟨Pk, Z, pk, _⟩ := kit_of I ry ty
  show wpAny (model c.X.prog c.X.w) c.X.A (richCompare .Eq (.ref a) u) (EP c.X pins σ Q) c.X.xe s
  refine PySem.W.cmp_K (op := .Eq) hr.units0 hF I.ok.mod.kin J (Z.ty _ _ I.kIn pk) hn M.at_ M.fn (wpAny_mono (run_below (us := [.ref a, u]) (vs := [.ref a, y]) F hr rfl hb passAll I (.cons rfl (.cons ry .nil)) sp) (fun w s' done => ?_) fun _ _ z => z)
  obtain ⟨v', H', I', rv, b, ev, q⟩ := done
  subst ev
  cases (show w = Value.bool b from rv)
  exact ⟨.bl b, H', I', rfl, q⟩
theorem opd_eqO {k : Nat} {fs : FS} : OpD c (rEqO c k fs) (fun x y P => ∃ gs t, x = .obj k gs ∧ tagV cls y = some t ∧ (∀ k fs, y = .obj k fs → InsF c.X.K (cls k)) ∧ PySem.W.notFirst c.X.K (cls k) t = true ∧ fs [x, y] (fun d => ∃ b, d = .bl b ∧ P (.bl b)) (fun _ => False)) :=
  fun R H vx vy x y P nd ok qx qy f Q kk => by
    obtain ⟨gs, t, rfl, ht, hi, hn, h⟩ := f
    have qx' := qx
    obtain ⟨a, dx, vf, rfl, ea, qf⟩ := qx.objAt
    refine ⟨a, dx, vf, t, rfl, ea, tag_ok qy ht hi, hn, spOf0 nd ok (.cons qx' (.cons qy .nil)) h fun v H' ⟨d, g, ok', q2, b, e, hp⟩ => ?_⟩
    subst e
    cases q2
    exact ⟨b, rfl, kk _ _ ⟨_, g, ok', .bl b, hp⟩⟩
theorem we_eqO {a b : Expr} {pos : Pos} {k j : Nat} {fs : FS} {P : D → Prop} {ex : Xd → Prop} (d : ObM c k "__eq__" j fs) (hr : Room j c.X.A)
    (h : WE c a ρ (fun x => WE c b ρ (fun y => ∃ gs t, x = .obj k gs ∧ tagV cls y = some t ∧ (∀ k fs, y = .obj k fs → InsF c.X.K (cls k)) ∧ PySem.W.notFirst c.X.K (cls k) t = true ∧ fs [x, y] (fun d => ∃ b, d = .bl b ∧ P (.bl b)) (fun _ => False)) ex) ex) :
    WE c (.Compare a [.Eq] [b] pos) ρ P ex := we_bin (pe_cmpR (op_eqO d hr) (peU c a) (peU c b) (nomark _)) opd_eqO h
end
end Vl
end
section
set_option maxHeartbeats 4000000
namespace Vl
open PySem PySem.Spec PyProof.Rows L2
/-! ### a def whose promise may name the first free address of the caller -/
/-! ### iter(a tuple) as a value -/
/-! ### walking an object whose __iter__ is «return iter(self.f)», f a tuple -/
end Vl
end
section
set_option maxHeartbeats 4000000
namespace Vl
open PySem PySem.Spec PyProof.Rows L2 L2H HotX
variable {cls : Nat → Addr}
section
variable {c : Cy cls} {R : Addr → Prop} {H H' : Hp} {σ : L2.St} {ρ : Rho}
theorem Sl.setExc (S : Sl c R H σ ρ) {i : Nat} {v : V} {e : Addr × Addr × Xd} (q : Xq c.W R H v e) : Sl c R H (σ.set i (some v)) (ρ.set i (some (.exc e))) := by
  have T := S.setNone (i := i) (o := some v)
  have back : ∀ (j : Nat) (w : Sv), i ≠ j → (ρ.set i (some (.exc e)))[j]? = some (some w) → (ρ.set i none)[j]? = some (some w) := fun j w h z => by
    rw [List.getElem?_set_ne h] at z ⊢
    exact z
  have self : ∀ (j : Nat) (w : Sv), (∀ e', w ≠ .exc e') → (ρ.set i (some (.exc e)))[j]? = some (some w) → (ρ.set i none)[j]? = some (some w) := fun j w h z => by
    by_cases hj : i = j
    · subst hj
      have y := get_set_self z
      cases y
      exact absurd rfl (h e)
    · exact back j w hj z
  exact {
    ndr := T.ndr
    ok := T.ok
    ok0 := T.ok0
    gr := T.gr
    sub := T.sub
    len := by simp [S.len]
    val := fun j d h => T.val j d (self j _ (fun _ z => nomatch z) h)
    lst := fun j d h => T.lst j d (self j _ (fun _ z => nomatch z) h)
    sep := fun j k d1 d2 a hjk h1 h2 => T.sep j k d1 d2 a hjk (self j _ (fun _ z => nomatch z) h1) (self k _ (fun _ z => nomatch z) h2)
    ob := fun j a k fs h => T.ob j a k fs (self j _ (fun _ z => nomatch z) h)
    exc := fun j d h => by
      by_cases hj : i = j
      · subst hj
        have lt := set_lt h
        have y := get_set_self h
        cases y
        exact ⟨v, by rw [List.getElem?_set_self (by rw [S.len]; exact lt)], q⟩
      · exact T.exc j d (back j _ hj h)
    dc := fun j d h => T.dc j d (self j _ (fun _ z => nomatch z) h)
    sepd := fun j k d1 d2 a hjk h1 h2 => T.sepd j k d1 d2 a hjk (self j _ (fun _ z => nomatch z) h1) (self k _ (fun _ z => nomatch z) h2) }
/-! ### what is known of the exception that is handled -/
/-- a, its dict, its class and fields: it is handled here, its context is None -/
def HX (c : Cy cls) (e : Addr × Addr × Xd) : Prop := ∃ oe vs, (e.1, oe) ∈ c.X.pn ∧ Hot1 c.X.A (e.1, oe) ∧ L2N.Zn (.ref (cls e.2.2.c)) (some e.2.1) oe ∧ oe.data = .fields vs
/-- isinstance(n, b) -/
def rXisi (c : Cy cls) (e : Addr × Addr × Xd) : List V → Hp → VK → Prop := fun xs H Q => ∃ (y : V) (u : Value) (b : Bool), xs = [.ref e.1, y] ∧ ClsV y u ∧ (∃ fs, H e.2.1 = some (.xd fs)) ∧ PySem.W.kitOne c.X.K (.ref (cls e.2.2.c)) u = some b ∧ Q (.bl b) H
theorem call_xisi {e : Addr × Addr × Xd} (hx : HX c e) (C : ExcC c.X.K (cls e.2.2.c)) : CallR c.X (.builtin "isinstance") (rXisi c e) := by
  intro pins s σ H xs us Q I r h
  obtain ⟨y, u, b, rfl, hy, ⟨fs, ed⟩, hk, q⟩ := h
  obtain ⟨oe, vs, hm, _, hz, hd⟩ := hx
  cases r with
  | cons rx rr =>
    cases rr with
    | cons rt rr =>
      cases rr
      cases rx
      have eu := hy.eq rt
      subst eu
      have get := (I.pin (e.1, oe) (List.mem_append_left _ hm)).1
      have own : ObjOk c.X.prog c.X.w H s.heap e.2.1 (.xd fs) := I.hok _ _ ed
      obtain ⟨mA, ⟨od, es, ep, ho, _⟩, _⟩ := own
      have J : PySem.W.InstAt s.heap e.1 oe (cls e.2.2.c) (some od) := { at_ := get, cls := hz.1, no := (by unfold PySem.W.notCls; rw [hd] <;> rfl), dict := (by rw [hz.2.1]; exact ho) }
      obtain ⟨cd, hcd, _⟩ := PySem.W.any_some C.hd
      exact PySem.W.kia_one (PySem.W.kitx_exc (by rw [hcd]; rfl) C.hg C.hk C.hs C.ha C.hn C.ht C.hm) I.kIn J hk (fun z => nomatch z) fun tk => ⟨.bl b, H, I.tok tk, rfl, q⟩
theorem we_xisi {i : Nat} {x : Str} {b : Expr} {pp px pos : Pos} {e : Addr × Addr × Xd} {P : D → Prop} {ex : Xd → Prop} (nb : NB c.X.mg) (hx : HX c e) (C : ExcC c.X.K (cls e.2.2.c)) (hN : c.X.N[i]? = some x) (hρ : ρ[i]? = some (some (.exc e)))
    (h : WE c b ρ (fun d => ∃ u bb, clV cls d = some u ∧ PySem.W.kitOne c.X.K (.ref (cls e.2.2.c)) u = some bb ∧ P (.bl bb)) ex) (hv : Vis c.X.env.scope x := by first | exact Or.inl rfl | exact Or.inr (Or.inl rfl) | exact Or.inr (Or.inr rfl))
    (hd : (x == ("__debug__" : Str)) = false := by decide) (hcd : (x == ("__classdict__" : Str)) = false := by decide)
    (hp : PE c.X (.Call (.Name "isinstance" pp) [.Name x px, b] [] pos) (tCB (rXisi c e) (tCons (tVar i) (tCons (tU c b) tNil))) := by exact pe_callB (call_xisi (by assumption) (by assumption)) (by rfl) ((by assumption : NB _) _ bl_isinstance) bt_isinstance (pa_cons (pe_var (by assumption) (by assumption) (by assumption) (by assumption)) (pa_cons (peU _ _) pa_nil))) :
    WE c (.Call (.Name "isinstance" pp) [.Name x px, b] [] pos) ρ P ex :=
  we_of hp fun σ H R E S pa y => by
    obtain ⟨v, h1, h2⟩ := S.exc i e hρ
    refine ⟨v, h1, tU.mk h S pa y fun v2 H1 ⟨d, g1, ok1, q1, u, bb, hu, hk, hp⟩ => ?_⟩
    obtain ⟨e1, fs, hr, hH, _⟩ := h2.grow S.ndr g1
    subst e1
    exact ⟨v2, u, bb, rfl, clV_ok q1 hu, ⟨fs, hH⟩, hk, .bl bb, g1, ok1, .bl bb, hp⟩
/-- n.f -/
theorem we_xfld {i : Nat} {x f : Str} {px pos : Pos} {e : Addr × Addr × Xd} {d : D} {P : D → Prop} {ex : Xd → Prop} (hx : HX c e) (T : XfC c.X.K (cls e.2.2.c)) (no : PySem.W.findIn c.X.K (.ref (cls e.2.2.c)) f = some none) (hN : c.X.N[i]? = some x) (hρ : ρ[i]? = some (some (.exc e)))
    (hl : e.2.2.fs.lookup f = some d) (h : P d) (hv : Vis c.X.env.scope x := by first | exact Or.inl rfl | exact Or.inr (Or.inl rfl) | exact Or.inr (Or.inr rfl))
    (hd : (x == ("__debug__" : Str)) = false := by decide) (hcd : (x == ("__classdict__" : Str)) = false := by decide) (hab : attributeBase (.Name x px) f c.X.env (eval (.Name x px) c.X.env) = eval (.Name x px) c.X.env := by rfl) : WE c (.Attribute (.Name x px) f pos) ρ P ex := by
  refine ⟨fun pins s σ H R E I S pa y => ?_⟩
  obtain ⟨v, h1, h2⟩ := S.exc i e hρ
  obtain ⟨oe, vs, hm, _, hz, hda⟩ := hx
  refine attr_of hab (thn ((pe_var (pos := px) hN hv hd hcd).run pins s σ H (fun v' H' => v' = v ∧ H' = H) I ⟨v, h1, rfl, rfl⟩) fun u s1 ⟨v', H1, I1, rv, ev, eH⟩ => ?_)
  subst ev
  rw [eH] at I1
  obtain ⟨e1, fs, hr, hH, qf⟩ := h2
  subst e1
  cases (show u = Value.ref e.1 from rv)
  obtain ⟨w, hw, qw⟩ := qf.lookup hl
  have get := (I1.pin (e.1, oe) (List.mem_append_left _ hm)).1
  have own : ObjOk c.X.prog c.X.w H s1.heap e.2.1 (.xd fs) := I1.hok _ _ hH
  obtain ⟨mA, hns, rel⟩ := own
  obtain ⟨od, ho, hlook⟩ := lookIn_ns hns
  obtain ⟨uu, hu, ru⟩ := RelO.some_of (v := w) (o := mA f) (by rw [← hw]; exact rel f)
  have J : PySem.W.InstAt s1.heap e.1 oe (cls e.2.2.c) (some od) := { at_ := get, cls := hz.1, no := (by unfold PySem.W.notCls; rw [hda] <;> rfl), dict := (by rw [hz.2.1]; exact ho) }
  exact PySem.HandSPX.exc_get I1.kIn J T.ga T.gg T.exC (PySem.W.findObj_own T.hdC no rfl (by rw [hlook, hu])) (handed_of ru) ⟨w, H, I1.tok _, ru, d, Gr.refl, S.ok, qw.grow S.ndr Gr.refl, h⟩
end
/-! ### a def that is handed the exception -/
abbrev FXd := Xd → (D → Prop) → Prop
def spTold (cls : Nat → Addr) (fx : FXd) : Addr × Obj → Sp := fun p vs H Q _ => ∃ (W : Wd cls) (R : Addr → Prop) (dd : Addr) (x : Xd) (rt : D → Prop), vs = [.ref p.1] ∧ W.nd R ∧ W.ok H ∧ L2N.Zn (.ref (cls x.c)) (some dd) p.2 ∧ (∃ ws, p.2.data = .fields ws) ∧
  Xq W R H (.ref p.1) (p.1, dd, x) ∧ fx x rt ∧ ∀ v d H', Gr W H H' → W.ok H' → Dq W (Nw R H) H' v d → rt d → Q v H'
section
variable {c : Cy cls} {R : Addr → Prop} {H H' : Hp} {σ : L2.St} {ρ : Rho}
/-! ### try: body, except C as n: suite that returns -/
abbrev Cy.tr (c : Cy cls) (pn : List (Addr × Obj)) (xe : Value → Shared → Prop) : Cy cls := { c with X := c.X.tr pn xe }
abbrev Cy.suite (c : Cy cls) (a : Addr) (pn : List (Addr × Obj)) : Cy cls := { c with X := c.X.suite a pn }
theorem Sl.re {X' : Cx} (S : Sl c R H σ ρ) : Sl { c with X := X' } R H σ ρ := ⟨S.ndr, S.ok, S.ok0, S.gr, S.sub, S.len, S.val, S.lst, S.sep, S.ob, S.exc, S.dc, S.sepd⟩
theorem Sl.un {X' : Cx} (S : Sl { c with X := X' } R H σ ρ) : Sl c R H σ ρ := ⟨S.ndr, S.ok, S.ok0, S.gr, S.sub, S.len, S.val, S.lst, S.sep, S.ob, S.exc, S.dc, S.sepd⟩
theorem ws_try (i : Nat) {x n : Str} {body suite : List Stmt} {b₀ : Stmt} {np pos pos' : Pos} {kx : Nat} {p : Po} (hN : c.X.N.Nodup) (hi : c.X.N[i]? = some n) (nm : c.X.mg x = some (.ref (cls kx)))
    (hb : ∀ pn xe, PassesOwn (model c.X.prog c.X.w) c.X.A c.X.env xe → WSs (c.tr pn xe) body ρ { p with ex := fun ρ' y => ∃ b, PySem.W.exmOne c.X.K (.ref (cls y.c)) (.ref (cls kx)) = some b ∧ (b = false → p.ex ρ' y) ∧
      (b = true → ∀ a dd oe pn, HX (c.suite a ((a, oe) :: pn)) (a, dd, y) → WSs (c.suite a ((a, oe) :: pn)) (b₀ :: suite) (ρ'.set i (some (.exc (a, dd, y)))) { nx := fun _ => False, rt := p.rt }) })
    (hs : c.X.stack = c.X.env :: c.X.outer := by rfl) (hf : c.X.env.frame = some c.X.env.locals := by rfl) (hln : c.X.env.kindOf n = some .local := by rfl) (hg : Gl c.X x := by rfl) (hdb : (x == ("__debug__" : Str)) = false := by decide) :
    WS c (.Try body [.ExceptHandler (some (.Name x np)) (some n) (b₀ :: suite) pos'] [] [] pos) ρ p := by
  refine ⟨fun pins s σ H R Ds E I S ps en xx => ?_⟩
  have nms : Names c.X x (.ref (cls kx)) := ⟨hg, hdb, .inl nm⟩
  refine (L2N.ps_try_as (i := i) (Wout := fun k d σ H => E σ k d H) (tb := fun W D σ H => ∃ (ρ : Rho) (R : Addr → Prop) (p' : Po), Sl c R H σ ρ ∧ EndsOk c R H D p' ∧ ExS c (fun σ k d H => W k d σ H) p'.ex ∧ ∀ pn xe, PassesOwn (model c.X.prog c.X.w) c.X.A c.X.env xe → WSs (c.tr pn xe) body ρ p')
    (ts := fun a k d D σ H => ∃ (ρ : Rho) (R : Addr → Prop) (p' : Po), Sl c R H σ ρ ∧ EndsOk c R H D p' ∧ (∀ ρ y, ¬ p'.ex ρ y) ∧ ∀ oe pn, L2N.Zn k d oe → (∃ vs, oe.data = .fields vs) → WSs (c.suite a ((a, oe) :: pn)) (b₀ :: suite) ρ p') hs hf hN hi hln nms ps ?_ ?_).run pins s σ H Ds I ?_
  · intro W pn xe tk po
    refine ⟨fun pins s σ H D I ⟨ρ, R, p', S, en, xs, w⟩ => (w pn xe po).run pins s σ H R D (fun σ k d H => W k d σ H) I S.re tk ⟨fun R H σ ρ S k h => en.nx R H σ ρ S.un k h, fun R H σ ρ v d S q h => en.rt R H σ ρ v d S.un q h, fun R H σ ρ S k h => en.bk R H σ ρ S.un k h, fun R H σ ρ S k h => en.ct R H σ ρ S.un k h⟩ fun R H σ ρ y k d S a h => xs R H σ ρ y k d S.un a h⟩
  · intro a oe k d pn hz hd
    have tk : L2N.Takes (c.X.suite a ((a, oe) :: pn)) (fun _ _ _ _ => False) := fun u s' z => by
      obtain ⟨_, _, _, _, _, _, _, _, _, _, _, _, _, _, _, _, no⟩ := z
      exact no.elim
    refine ⟨fun pins s σ H D I ⟨ρ, R, p', S, en, no, w⟩ => (w oe pn hz hd).run pins s σ H R D (fun _ _ _ _ => False) I S.re tk ⟨fun R H σ ρ S k h => en.nx R H σ ρ S.un k h, fun R H σ ρ v d S q h => en.rt R H σ ρ v d S.un q h, fun R H σ ρ S k h => en.bk R H σ ρ S.un k h, fun R H σ ρ S k h => en.ct R H σ ρ S.un k h⟩ fun R H σ ρ y k d S a h => no _ _ h⟩
  · refine ⟨ρ, R, { p with ex := fun ρ' y => ∃ b, PySem.W.exmOne c.X.K (.ref (cls y.c)) (.ref (cls kx)) = some b ∧ (b = false → p.ex ρ' y) ∧
      (b = true → ∀ a dd oe pn, HX (c.suite a ((a, oe) :: pn)) (a, dd, y) → WSs (c.suite a ((a, oe) :: pn)) (b₀ :: suite) (ρ'.set i (some (.exc (a, dd, y)))) { nx := fun _ => False, rt := p.rt }) }, S, ⟨en.nx, en.rt, en.bk, en.ct⟩, fun R1 H1 σ1 ρ1 y k d S1 a1 h1 => ?_, hb⟩
    obtain ⟨b, e1, h2, h3⟩ := h1
    have a1' := a1
    obtain ⟨ek, dd, fs, ed, hH, hr, qf⟩ := a1'
    subst ek
    refine ⟨b, e1, fun eb a na => ⟨_, R1, { nx := fun _ => False, rt := p.rt }, S1.setExc (i := i) (v := .ref a) (e := (a, dd, y)) ⟨rfl, fs, hr, hH, qf⟩, ⟨fun _ _ _ _ _ _ z => z.elim, en.rt, fun _ _ _ _ _ _ z => z.elim, fun _ _ _ _ _ _ z => z.elim⟩, fun _ _ z => z, fun oe pn hz hd => ?_⟩, fun eb => xx R1 H1 σ1 ρ1 y _ d S1 a1 (h2 eb)⟩
    obtain ⟨ws, hd⟩ := hd
    subst ed
    exact h3 eb a dd oe pn ⟨oe, ws, List.mem_cons_self, ⟨rfl, ws, hd, hz.2.2 ws hd⟩, hz, hd⟩
end
end Vl
end
section
set_option maxHeartbeats 4000000
namespace Vl
open PySem PySem.Spec PyProof.Rows L2
variable {cls : Nat → Addr}
/-! ### what a comprehension gives -/
theorem acc_map {items acc : List D} {g : D → D} (h1 : acc.length = items.length) (h2 : ∀ (i : Nat) d y, items[i]? = some d → acc[i]? = some y → y = g d) : acc = items.map g := by
  apply List.ext_getElem?
  intro i
  rw [List.getElem?_map]
  cases e : items[i]? with
  | none =>
    rw [List.getElem?_eq_none_iff] at e
    rw [List.getElem?_eq_none (by omega)]
    rfl
  | some d =>
    have hi : i < acc.length := by
      have := (List.getElem?_eq_some_iff.mp e).1
      omega
    rw [List.getElem?_eq_getElem hi, h2 i d _ e (List.getElem?_eq_getElem hi)]
    rfl
theorem acc_range {n : Nat} {acc : List D} {g : Nat → D} (h1 : acc.length = (rangeD 0 n).length) (h2 : ∀ (i : Nat) d y, (rangeD 0 n)[i]? = some d → acc[i]? = some y → y = g i) : acc = (List.range n).map g := by
  rw [rangeD_length] at h1
  apply List.ext_getElem?
  intro i
  rw [List.getElem?_map]
  by_cases hi : i < n
  · have e : (rangeD 0 n)[i]? = some (.int (i : Nat)) := by
      unfold rangeD
      rw [List.getElem?_map, List.getElem?_range hi]
      simp
    have hj : i < acc.length := by omega
    rw [List.getElem?_eq_getElem hj, h2 i _ _ e (List.getElem?_eq_getElem hj), List.getElem?_range hi]
    rfl
  · rw [List.getElem?_eq_none (by omega), List.getElem?_eq_none (by simp; omega)]
    rfl
theorem enum_get {xs : List D} {i : Nat} {d : D} (h : (enumD xs)[i]? = some d) : ∃ x, xs[i]? = some x ∧ d = .tup [.int (i : Nat), x] := by
  rw [enumD_get] at h
  cases e : xs[i]? with
  | none => rw [e] at h; cases h
  | some x =>
    rw [e] at h
    cases h
    exact ⟨x, rfl, rfl⟩
theorem signs_get {z : Str} {i : Nat} {d : D} (h : (signs z)[i]? = some d) : ∃ n, z.cps.toList[i]? = some n ∧ d = .str ⟨#[n]⟩ := by
  unfold signs at h
  rw [List.getElem?_map] at h
  cases e : z.cps.toList[i]? with
  | none => rw [e] at h; cases h
  | some n =>
    rw [e] at h
    cases h
    exact ⟨n, rfl, rfl⟩
theorem signs_len {z : Str} : (signs z).length = z.length := by
  unfold signs
  rw [List.length_map]
  rfl
theorem ixN_nat {n i : Nat} (h : i < n) : L2.ixN n (i : Int) = some i := by
  unfold L2.ixN
  first
    | (rw [if_pos (by omega)]; simp [h])
    | (simp; omega)
    | (split <;> simp_all <;> omega)
theorem atI_nat {α : Type} {l : List α} {i : Nat} {a : α} (h : l[i]? = some a) : L2.atI l (i : Int) = some a := by
  have hi : i < l.length := (List.getElem?_eq_some_iff.mp h).1
  unfold L2.atI
  rw [ixN_nat hi]
  exact h
theorem item_str {z : Str} {i n : Nat} (hz : z.length ≤ 1000000) (h : z.cps.toList[i]? = some n) : itemD (.str z) (i : Int) = some (.str ⟨#[n]⟩) := by
  have hz' : z.length ≤ sizeLine := Nat.le_trans hz (by rw [sizeLine_eq]; omega)
  simp only [itemD, if_pos hz', atI_nat h, Option.map_some]
theorem item_lst {xs : List D} {i : Nat} {d : D} (h : xs[i]? = some d) : itemD (.lst xs) (i : Int) = some d := atI_nat h
theorem item_tup {xs : List D} {i : Nat} {d : D} (h : xs[i]? = some d) : itemD (.tup xs) (i : Int) = some d := atI_nat h
theorem len_str {z : Str} (hz : z.length ≤ 1000000) : lenD (.str z) = some z.length := by
  have hz' : z.length ≤ sizeLine := Nat.le_trans hz (by rw [sizeLine_eq]; omega)
  simp [lenD, hz']
/-! ### plain data of a bounded depth -/
def atomD : D → Bool
  | .non => true
  | .bl _ => true
  | .int _ => true
  | .str z => decide (z.length ≤ 1000000)
  | _ => false
def okD : Nat → D → Prop
  | 0, d => atomD d = true
  | n + 1, d => atomD d = true ∨ ∃ xs, (d = .lst xs ∨ d = .tup xs) ∧ xs.length ≤ 1000000 ∧ ∀ x ∈ xs, okD n x
theorem okD_up : ∀ {n : Nat} {d : D}, okD n d → okD (n + 1) d
  | 0, _, h => .inl h
  | n + 1, _, .inl h => .inl h
  | n + 1, _, .inr ⟨xs, h1, h2, h3⟩ => .inr ⟨xs, h1, h2, fun x hx => okD_up (h3 x hx)⟩
theorem okD_le {n m : Nat} (h : n ≤ m) {d : D} (k : okD n d) : okD m d := by
  induction h with
  | refl => exact k
  | step _ ih => exact okD_up ih
theorem okD_atom {n : Nat} {d : D} (h : atomD d = true) : okD n d := by
  cases n with
  | zero => exact h
  | succ n => exact .inl h
theorem atom_dat {d : D} (h : atomD d = true) : dat d = true := by
  cases d <;> first | rfl | exact Bool.noConfusion h
theorem okD_dat {n : Nat} {d : D} (h : okD n d) : dat d = true := by
  cases n with
  | zero => exact atom_dat h
  | succ n =>
    rcases h with h | ⟨xs, h | h, _⟩
    · exact atom_dat h
    · rw [h]; rfl
    · rw [h]; rfl
/-- plain data of some depth -/
def okX (d : D) : Prop := ∃ n, okD n d
theorem okX_dat {d : D} (h : okX d) : dat d = true := let ⟨_, h⟩ := h; okD_dat h
theorem okX_seq {d : D} {xs : List D} (e : d = .lst xs ∨ d = .tup xs) (h : okX d) : xs.length ≤ 1000000 ∧ ∀ x ∈ xs, okX x := by
  obtain ⟨n, h⟩ := h
  cases n with
  | zero => rcases e with e | e <;> subst e <;> exact Bool.noConfusion (show atomD _ = true from h)
  | succ n =>
    rcases h with h | ⟨ys, h, hl, hy⟩
    · rcases e with e | e <;> subst e <;> exact Bool.noConfusion h
    · have : xs = ys := by rcases e with e | e <;> rcases h with h | h <;> rw [e] at h <;> cases h <;> rfl
      subst this
      exact ⟨hl, fun x hx => ⟨n, hy x hx⟩⟩
theorem okX_str {z : Str} (h : okX (.str z)) : z.length ≤ 1000000 := by
  obtain ⟨n, h⟩ := h
  have key : atomD (.str z) = true → z.length ≤ 1000000 := fun h => of_decide_eq_true h
  cases n with
  | zero => exact key h
  | succ n =>
    rcases h with h | ⟨ys, h, _⟩
    · exact key h
    · rcases h with h | h <;> cases h
mutual
/-- lists and tuples made new: tuples (w = true), lists (w = false) -/
def remk (w : Bool) : D → D
  | .lst xs => if w then .tup (remkL w xs) else .lst (remkL w xs)
  | .tup xs => if w then .tup (remkL w xs) else .lst (remkL w xs)
  | .non => .non
  | .bl b => .bl b
  | .int i => .int i
  | .str z => .str z
  | .ty n => .ty n
  | .cl k => .cl k
  | .obj c fs => .obj c fs
  | .own k => .own k
  | .dic ks xs => .dic ks xs
  | .dit ks xs => .dit ks xs
  | .adr _ => if w then .tup [] else .lst []
def remkL (w : Bool) : List D → List D
  | [] => []
  | x :: xs => remk w x :: remkL w xs
end
theorem remkL_map (w : Bool) : ∀ xs : List D, remkL w xs = xs.map (remk w)
  | [] => by rw [remkL]; rfl
  | x :: xs => by rw [remkL, remkL_map w xs]; rfl
abbrev tupled : D → D := remk true
abbrev listed : D → D := remk false
theorem tupled_lst {xs : List D} : tupled (.lst xs) = .tup (xs.map tupled) := by show remk true (.lst xs) = _; rw [remk, remkL_map]; rfl
theorem tupled_tup {xs : List D} : tupled (.tup xs) = .tup (xs.map tupled) := by show remk true (.tup xs) = _; rw [remk, remkL_map]; rfl
theorem listed_lst {xs : List D} : listed (.lst xs) = .lst (xs.map listed) := by show remk false (.lst xs) = _; rw [remk, remkL_map]; rfl
theorem listed_tup {xs : List D} : listed (.tup xs) = .lst (xs.map listed) := by show remk false (.tup xs) = _; rw [remk, remkL_map]; rfl
theorem remk_atom {w : Bool} {d : D} (h : atomD d = true) : remk w d = d := by
  cases d <;> first | exact Bool.noConfusion h | (rw [remk])
theorem okD_remk {w : Bool} : ∀ {n : Nat} {d : D}, okD n d → okD n (remk w d)
  | 0, d, h => by rw [remk_atom h]; exact h
  | n + 1, d, h => by
    rcases h with h | ⟨xs, h, hl, hx⟩
    · rw [remk_atom h]; exact .inl h
    · have ok : ∀ y ∈ xs.map (remk w), okD n y := fun y hy => by
        obtain ⟨x, hx', e⟩ := List.mem_map.mp hy
        rw [← e]
        exact okD_remk (hx x hx')
      have ln : (xs.map (remk w)).length ≤ 1000000 := by rw [List.length_map]; exact hl
      refine .inr ⟨xs.map (remk w), ?_, ln, ok⟩
      rcases h with h | h <;> subst h <;> cases w
      · exact .inl listed_lst
      · exact .inr tupled_lst
      · exact .inl listed_tup
      · exact .inr tupled_tup
end Vl
end
section
set_option maxHeartbeats 4000000
namespace Vl
open PySem PySem.Spec PyProof.Rows L2
variable {cls : Nat → Addr}
/-! ### names read by a table: the first k of a def's slots are its own names -/
def nmB (N : List Str) (sc : Scope) : Bool := N.all fun x => (sc.names.lookup x == some .local || sc.names.lookup x == some .cell) && (!(x == ("__debug__" : Str)) && !(x == ("__classdict__" : Str)))
structure NmOk (N : List Str) (sc : Scope) (k : Nat) : Prop where
  ok : nmB (N.take k) sc = true
section
variable {c : Cy cls} {ρ : Rho}
theorem NmOk.at_ {N : List Str} {sc : Scope} {k : Nat} (h : NmOk N sc k) {i : Nat} {x : Str} (e : N[i]? = some x) (hi : i < k) : Vis sc x ∧ (x == ("__debug__" : Str)) = false ∧ (x == ("__classdict__" : Str)) = false := by
  have z := List.all_eq_true.mp h.ok x (List.mem_of_getElem? (i := i) (by rw [List.getElem?_take, if_pos hi]; exact e))
  simp only [Bool.and_eq_true, Bool.or_eq_true, Bool.not_eq_true', beq_iff_eq] at z
  exact ⟨z.1.elim .inl fun z => .inr (.inl z), z.2.1, z.2.2⟩
theorem we_nm {s : String} {pos : Pos} {k : Nat} {P : D → Prop} {ex : Xd → Prop} (V : NmOk c.X.N c.X.env.scope k) (h : ∃ (i : Nat) (t : String) (d : D), c.X.N[i]? = some (Str.ofString t) ∧ t = s ∧ Nat.ble (i + 1) k = true ∧ ρ[i]? = some (some (.val d)) ∧ P d) : WE c (.Name (Str.ofString s) pos) ρ P ex := by
  obtain ⟨i, t, d, h1, rfl, hk, h2, h3⟩ := h
  obtain ⟨v1, v2, v3⟩ := V.at_ h1 (Nat.le_of_ble_eq_true hk)
  exact we_val h1 h2 h3 v1 v2 v3
theorem we_isNm {x : Str} {pos : Pos} {P : D → Prop} {ex : Xd → Prop} (h : WE c (.Name x pos) ρ P ex) : WE c (.Name x pos) ρ P ex := h
/-- a name in any block -/
theorem we_nmB {i : Nat} {s t : String} {pos : Pos} {d : D} {P : D → Prop} {ex : Xd → Prop} (hN : c.X.N[i]? = some (Str.ofString t)) (e : t = s) (hρ : ρ[i]? = some (some (.val d))) (h : P d) (hv : Vis c.X.env.scope (Str.ofString t) := by first | exact Or.inl rfl | exact Or.inr (Or.inl rfl) | exact Or.inr (Or.inr rfl))
    (hd : (Str.ofString t == ("__debug__" : Str)) = false := by decide) (hcd : (Str.ofString t == ("__classdict__" : Str)) = false := by decide) : WE c (.Name (Str.ofString s) pos) ρ P ex := by
  subst e
  exact we_val hN hρ h hv hd hcd
end
/-! ### by the form of what stands there -/
section
variable {c : Cy cls} {ρ : Rho}
theorem gWE {e : Expr} {P : D → Prop} {ex : Xd → Prop} (h : WE c e ρ P ex) : WE c e ρ P ex := h
theorem gWT {e : Expr} {P : Bool → Prop} {ex : Xd → Prop} (h : WT c e ρ P ex) : WT c e ρ P ex := h
theorem gCo {k : Const} {j : Nat} {pos : Pos} {P : D → Prop} {ex : Xd → Prop} (h : WE c (.Constant k j pos) ρ P ex) : WE c (.Constant k j pos) ρ P ex := h
theorem gCa {f : Expr} {as : List Expr} {kw : List Keyword} {pos : Pos} {P : D → Prop} {ex : Xd → Prop} (h : WE c (.Call f as kw pos) ρ P ex) : WE c (.Call f as kw pos) ρ P ex := h
theorem gBi {a b : Expr} {o : Operator} {pos : Pos} {P : D → Prop} {ex : Xd → Prop} (h : WE c (.BinOp a o b pos) ρ P ex) : WE c (.BinOp a o b pos) ρ P ex := h
theorem gBo {o : BoolOp} {as : List Expr} {pos : Pos} {P : D → Prop} {ex : Xd → Prop} (h : WE c (.BoolOp o as pos) ρ P ex) : WE c (.BoolOp o as pos) ρ P ex := h
end
end Vl
end
section
set_option maxHeartbeats 4000000
namespace Vl
open PySem PySem.Spec PyProof.Rows L2
variable {cls : Nat → Addr}
/-! ### == of plain data -/
mutual
def pyOf : D → PyData
  | .lst xs => .list (pyOfL xs)
  | .tup xs => .tuple (pyOfL xs)
  | .bl b => .bool b
  | .int i => .int i
  | .str z => .str z
  | .non => .none
  | .ty _ => .none
  | .cl _ => .none
  | .obj _ _ => .none
  | .own _ => .none
  | .dic _ _ => .none
  | .dit _ _ => .none
  | .adr _ => .none
def pyOfL : List D → List PyData
  | [] => []
  | x :: xs => pyOf x :: pyOfL xs
end
theorem dp_list {W : Wd cls} {K : PySem.W.Frag} {R : Addr → Prop} {H : Hp} : ∀ {ds : List D} {vs : List V}, (∀ d v, d ∈ ds → Dq W R H v d → L2.Dp K H v (pyOf d)) → DqL W R H vs ds → L2.DpAll K H vs (pyOfL ds)
  | _, _, _, .nil => by rw [pyOfL]; exact .nil
  | _, _, h, .cons q r => by
    rw [pyOfL]
    exact .cons (h _ _ List.mem_cons_self q) (dp_list (fun d v m => h d v (List.mem_cons_of_mem _ m)) r)
theorem dp_of {W : Wd cls} {K : PySem.W.Frag} {R : Addr → Prop} {H : Hp} : ∀ {n : Nat} {d : D} {v : V}, okD n d → Dq W R H v d → L2.Dp K H v (pyOf d) := by
  have atom : ∀ {d : D} {v : V}, atomD d = true → Dq W R H v d → L2.Dp K H v (pyOf d) := fun {d v} h q => by
    cases q <;> first | exact Bool.noConfusion h | (rw [pyOf]; constructor)
  intro n
  induction n with
  | zero => exact fun h q => atom h q
  | succ n ih =>
    intro d v h q
    rcases h with h | ⟨xs, h | h, _, hx⟩
    · exact atom h q
    · subst h
      cases q with
      | lst r e q => rw [pyOf]; exact .lst (sq_l e) (dp_list (fun d v m q => ih (hx d m) q) q)
    · subst h
      cases q with
      | tup r e q => rw [pyOf]; exact .tup (sq_t e) (dp_list (fun d v m q => ih (hx d m) q) q)
/-- what == may be asked about -/
def eqOk (d : D) : Prop := okX d ∧ SeqAt.shaped (pyOf d) = true
abbrev eqB (x y : D) : Bool := PyData.eqv (pyOf x) (pyOf y)
section
variable {c : Cy cls} {R : Addr → Prop} {H H' : Hp} {σ : L2.St} {ρ : Rho}
theorem opd_eqD : OpD c (rEqD c.X.K) (fun x y P => eqOk x ∧ eqOk y ∧ P (.bl (eqB x y))) := fun R H vx vy x y P nd ok qx qy f Q k => by
  obtain ⟨⟨⟨n, h1⟩, s1⟩, ⟨⟨m, h2⟩, s2⟩, h⟩ := f
  exact ⟨_, _, dp_of h1 qx, dp_of h2 qy, s1, s2, k _ _ (Fin.here ok nd (.bl _) h)⟩
theorem we_eqD {a b : Expr} {pos : Pos} {P : D → Prop} {ex : Xd → Prop} (hr : Room 0 c.X.A) (h : WE c a ρ (fun x => WE c b ρ (fun y => eqOk x ∧ eqOk y ∧ P (.bl (eqB x y))) ex) ex) : WE c (.Compare a [.Eq] [b] pos) ρ P ex :=
  we_bin (pe_cmpR (op_eqD (by have := hr.un; omega)) (peU c a) (peU c b) (nomark _)) opd_eqD h
end
theorem py_ints : ∀ ns : List Int, PyData.canLayAll0 (pyOfL (ns.map D.int)) = true ∧ PyData.depthAll (pyOfL (ns.map D.int)) = 0
  | [] => by rw [List.map_nil, pyOfL]; exact ⟨rfl, rfl⟩
  | n :: ns => by
    rw [List.map_cons, pyOfL, pyOf]
    obtain ⟨h1, h2⟩ := py_ints ns
    simp only [PyData.canLayAll0, PyData.canLay0, h1, PyData.depthAll, PyData.depth, h2]
    exact ⟨rfl, rfl⟩
theorem eqv_ints : ∀ ns ms : List Int, PyData.eqvAll (pyOfL (ns.map D.int)) (pyOfL (ms.map D.int)) = decide (ns = ms)
  | [], [] => by rw [List.map_nil, pyOfL]; rfl
  | [], m :: ms => by rw [List.map_nil, List.map_cons, pyOfL, pyOfL]; simp [PyData.eqvAll]
  | n :: ns, [] => by rw [List.map_nil, List.map_cons, pyOfL, pyOfL]; simp [PyData.eqvAll]
  | n :: ns, m :: ms => by
    rw [List.map_cons, List.map_cons, pyOfL, pyOfL, pyOf, pyOf]
    simp only [PyData.eqvAll, PyData.eqv, eqv_ints ns ms]
    rw [Bool.eq_iff_iff]
    simp
theorem okX_atom {d : D} (h : atomD d = true) : okX d := ⟨0, h⟩
theorem okD_ints {n : Nat} {ns : List Int} : ∀ x ∈ ns.map D.int, okD n x := fun x h => by
  obtain ⟨i, _, rfl⟩ := List.mem_map.mp h
  exact okD_atom rfl
section
variable {c : Cy cls} {ρ : Rho}
theorem dql_empty {W : Wd cls} {R : Addr → Prop} {H : Hp} {vs : List V} {ds : List D} (q : DqL W R H vs ds) : vs.isEmpty = ds.isEmpty := by
  cases q <;> rfl
end
end Vl
end
section
set_option maxHeartbeats 4000000
namespace Vl
open PySem PySem.Spec PyProof.Rows L2
variable {cls : Nat → Addr}
/-! ### an own list, read and written -/
section
variable {c : Cy cls} {R : Addr → Prop} {H H' : Hp} {σ : L2.St} {ρ : Rho}
/-- own[b] -/
theorem we_oix {i : Nat} {x : Str} {b : Expr} {npos pos : Pos} {ds : List D} {P : D → Prop} {ex : Xd → Prop} (hN : c.X.N[i]? = some x) (hρ : ρ[i]? = some (some (.lst ds))) (h : WE c b ρ (fun y => ∃ j d, y = .int j ∧ L2.atI ds j = some d ∧ P d) ex)
    (hv : Vis c.X.env.scope x := by first | exact Or.inl rfl | exact Or.inr (Or.inl rfl) | exact Or.inr (Or.inr rfl)) (hd : (x == ("__debug__" : Str)) = false := by decide) (hcd : (x == ("__classdict__" : Str)) = false := by decide) (hp : PlainIx b := by exact fun _ _ => rfl) : WE c (.Subscript (.Name x npos) b pos) ρ P ex :=
  we_of (pe_ix ix_seq (pe_var hN hv hd hcd) (peU c b) hp) fun σ H R E S p y => by
    obtain ⟨a, vs, h1, h2, h3, h4, h5⟩ := S.lst i ds hρ
    refine ⟨.ref a, h1, tU.mk h S p y fun v H1 ⟨dj, g, ok, q, j, d, e, hj, hp⟩ => ?_⟩
    subst e
    cases q
    have S1 := S.grow g ok
    obtain ⟨a', vs', g1, g2, g3, g4, g5⟩ := S1.lst i ds hρ
    rw [h1] at g1
    cases g1
    obtain ⟨w, w1, w2⟩ := g5.atI hj
    exact .inl ⟨a, vs', j, w, rfl, rfl, sq_l g4, w1, d, g, ok, w2, hp⟩
/-- len(own) -/
theorem we_olen {i : Nat} {x : Str} {npos pp pos : Pos} {ds : List D} {P : D → Prop} {ex : Xd → Prop} (nb : NB c.X.mg) (hN : c.X.N[i]? = some x) (hρ : ρ[i]? = some (some (.lst ds))) (h : P (.int (ds.length : Nat)))
    (hv : Vis c.X.env.scope x := by first | exact Or.inl rfl | exact Or.inr (Or.inl rfl) | exact Or.inr (Or.inr rfl)) (hd : (x == ("__debug__" : Str)) = false := by decide) (hcd : (x == ("__classdict__" : Str)) = false := by decide) (hg : Gl c.X "len" := by rfl)
    (he : starEach [.Name x npos] c.X.env = (false, eval (.Name x npos) c.X.env) :: starEach [] c.X.env := by rfl) (hpl : (backTo pos (starEach [] c.X.env)).any (·.1) = false := by rfl) : WE c (.Call (.Name "len" pp) [.Name x npos] [] pos) ρ P ex :=
  we_of (pe_callB call_len hg (nb _ bl_len) bt_len (pa_cons (pe_var hN hv hd hcd) pa_nil he) (by decide) (by decide) he hpl) fun σ H R E S p y => by
    obtain ⟨a, vs, h1, h2, h3, h4, h5⟩ := S.lst i ds hρ
    exact ⟨.ref a, h1, _, ds.length, rfl, .inl ⟨_, sq_l h4, by rw [h5.length]⟩, .int (ds.length : Nat), Gr.refl, S.ok, .int _, h⟩
/-- own[b] = e -/
theorem ws_oset (i : Nat) {x : Str} {b e : Expr} {npos spos pos : Pos} {ds : List D} {p : Po} (hN : c.X.N[i]? = some x) (hρ : ρ[i]? = some (some (.lst ds)))
    (h : WE c e ρ (fun d => WE c b ρ (fun y => ∃ k j, y = .int k ∧ L2.ixN ds.length k = some j ∧ p.nx (ρ.set i (some (.lst (ds.set j d))))) (p.ex ρ)) (p.ex ρ))
    (hv : Vis c.X.env.scope x := by first | exact Or.inl rfl | exact Or.inr (Or.inl rfl) | exact Or.inr (Or.inr rfl)) (hd : (x == ("__debug__" : Str)) = false := by decide) (hcd : (x == ("__classdict__" : Str)) = false := by decide)
    (hsub : ∀ v, assign (.Subscript (.Name x npos) b spos) c.X.env v = (do
      let ov ← holding [v] (eval (.Name x npos) c.X.env)
      let iv ← holding [v, ov] (eval b c.X.env)
      standAt spos
      holding [v, ov, iv] (setItem ov iv v)
      release [v, ov, iv] []) := by intro _; rfl)
    (hs : swapsWithSole [.Subscript (.Name x npos) b spos] e pos.line c.X.env = pure false := by rfl) (hw : swappedStores [.Subscript (.Name x npos) b spos] e c.X.env = pure none := by rfl)
    (ha : (assignEach [.Subscript (.Name x npos) b spos] c.X.env).map (·.2) = [assign (.Subscript (.Name x npos) b spos) c.X.env] := by rfl) : WS c (.Assign [.Subscript (.Name x npos) b spos] e pos) ρ p :=
  ws_of (ps_asg (peU c e) (pg_sub (pe_var hN hv hd hcd) (peU c b) set_list hsub) hs hw ha) fun σ H R Ds E S ps en xx => tU.mk h S (ps.at σ) (xx.at S) fun v H1 ⟨d, g1, ok1, q1, w1⟩ => by
    have S1 := S.grow g1 ok1
    obtain ⟨a, vs, h1, h2, h3, h4, h5⟩ := S.lst i ds hρ
    refine ⟨.ref a, h1, tU.mk w1 S1 (ps.at σ) (xx.at S |>.grow g1 ok1) fun vy H2 ⟨dy, g2, ok2, q2, k, j, e, hj, hn⟩ => ?_⟩
    subst e
    cases q2
    have S2 := S1.grow g2 ok2
    obtain ⟨a', vs', k1, k2, k3, k4, k5⟩ := S2.lst i ds hρ
    rw [h1] at k1
    cases k1
    refine ⟨a, vs', k, j, rfl, rfl, k4, by rw [k5.length]; exact hj, en.nx _ _ σ _ (S2.mutLst hρ h1 (DqL.set (q1.grow S1.ndr g2) j k5)) ?_ hn⟩
    exact ((Kp.grow S.ndr g1).trans (Kp.grow S1.ndr g2)).trans (Kp.mut k2)
/-- own.append(own2.pop(b)) -/
theorem ws_appPop (i j : Nat) {x z : Str} {b : Expr} {pos ppos apos npos bpos zpos qpos : Pos} {p : Po} {ds es : List D} (hij : i ≠ j) (hN : c.X.N[i]? = some x) (hρ : ρ[i]? = some (some (.lst ds))) (hz : ds.length < sizeLine) (hN2 : c.X.N[j]? = some z) (hρ2 : ρ[j]? = some (some (.lst es)))
    (h : WE c b ρ (fun y => ∃ k n d, y = .int k ∧ -(2 ^ 63) ≤ k ∧ k < 2 ^ 63 ∧ seqIndex? k es.length = some n ∧ es[n]? = some d ∧ p.nx ((ρ.set j (some (.lst (es.eraseIdx n)))).set i (some (.lst (ds ++ [d]))))) (p.ex ρ))
    (hpe : PE c.X (.Call (.Attribute (.Name x npos) "append" apos) [.Call (.Attribute (.Name z zpos) "pop" bpos) [b] [] qpos] [] ppos) (tBM c.X.K "list" rAppend (tVar i) (tCons (tBM c.X.K "list" rPopAt (tVar j) (tAs c [b])) tNil)) := by
      exact pe_bm PySem.F.plainAttrs_list PySem.F.slot_list_append PySem.F.type_list_append mt_append (pv _) (pa_cons (pe_bm PySem.F.plainAttrs_list PySem.F.slot_list_pop PySem.F.type_list_pop mt_popAt (pv _) (pa_cons (peU _ _) pa_nil)) pa_nil))
    (hs : swapsWith (.Call (.Attribute (.Name x npos) "append" apos) [.Call (.Attribute (.Name z zpos) "pop" bpos) [b] [] qpos] [] ppos) none pos.line c.X.env = pure false := by rfl) :
    WS c (.Expr (.Call (.Attribute (.Name x npos) "append" apos) [.Call (.Attribute (.Name z zpos) "pop" bpos) [b] [] qpos] [] ppos) pos) ρ p :=
  ws_of (ps_expr hpe hs) fun σ H R Ds E S ps en y => by
    obtain ⟨a, vs, h1, h2, h3, h4, h5⟩ := S.lst i ds hρ
    obtain ⟨a2, vs2, e1, e2, e3, e4, e5⟩ := S.lst j es hρ2
    have hne : a ≠ a2 := fun q => S.sep i j ds es a hij hρ hρ2 h1 (by rw [e1, q])
    refine ⟨_, h1, .inl ⟨rfl, _, .inl (.inl h4)⟩, ?_⟩
    refine ⟨_, e1, .inl ⟨rfl, _, .inl (.inl e4)⟩, ?_⟩
    refine tU.mk h S (ps.at σ) (y.at S) fun v H1 ⟨dy, g, ok, q, k, n, d, ey, b1, b2, hn, hd, hp⟩ => ?_
    subst ey
    cases q
    have S1 := S.grow g ok
    obtain ⟨a', ws, g1, g2, g3, g4, g5⟩ := S1.lst i ds hρ
    obtain ⟨a2', ws2, f1, f2, f3, f4, f5⟩ := S1.lst j es hρ2
    rw [h1] at g1
    cases g1
    rw [e1] at f1
    cases f1
    obtain ⟨w, w1, w2⟩ := f5.get hd
    have S2 := S1.mutLst hρ2 e1 (f5.eraseIdx n)
    have r2 : (ρ.set j (some (.lst (es.eraseIdx n))))[i]? = some (some (.lst ds)) := by
      rw [List.getElem?_set_ne (Ne.symm hij)]
      exact hρ
    obtain ⟨a3, ws3, k1, k2, k3, k4, k5⟩ := S2.lst i ds r2
    rw [h1] at k1
    cases k1
    refine ⟨a2, ws2, k, n, w, rfl, rfl, f4, b1, b2, by rw [f5.length]; exact hn, w1, ?_⟩
    refine ⟨a, ws3, w, rfl, rfl, k4, by rw [k5.length]; exact hz, ?_⟩
    have w3 : Dq c.W (Nw R H) (upd H1 a2 (.lst (ws2.eraseIdx n))) w d := (Kp.mut f2).dq w2
    exact en.nx _ _ σ _ (S2.mutLst r2 h1 (k5.append (.cons w3 .nil))) (((Kp.grow S.ndr g).trans (Kp.mut f2)).trans (Kp.mut k2)) hp
end
end Vl
end
section
set_option maxHeartbeats 4000000
namespace Vl
open PySem PySem.Spec PyProof.Rows L2
variable {cls : Nat → Addr}
/-! ### the draw list from within: its numbers are known at each place -/
def dW (W : Wd cls) (hk : W.kind = 1) (js : List Int) : Wd cls where
  dr := W.dr
  cl := W.cl
  ns := W.ns
  kind := 3
  mv := W.mv
  base := W.base
  ok := fun H => W.ok H ∧ H W.dr = some (.lst (.ref W.cl :: js.map V.int))
  mvb := W.mvb
  some := fun H h => W.some H h.1
  keep := fun H H' h k => ⟨W.keep H H' h.1 k, by rw [k _ (W.mvb _ (W.dmv hk).1)]; exact h.2⟩
  dmv := fun h => absurd h (by decide)
  dok := fun h => absurd h (by decide)
  dset := fun h => absurd h (by decide)
  cok := fun h => absurd h (by decide)
abbrev dc (c : Cy cls) (hk : c.W.kind = 1) (js : List Int) : Cy cls := { c with W := dW c.W hk js }
structure WD (c : Cy cls) (hk : c.W.kind = 1) (js : List Int) (st : List Stmt) (ρ : Rho) (nx : List Int → Rho → Prop) (rt : List Int → D → Prop) : Prop where
  run : ∀ (pins : List (Addr × Obj)) (s : Shared) (σ : L2.St) (H : Hp) (R : Addr → Prop) (Ds : Ends) (E : L2.St → XK), Inv c.X pins σ H s → Sl (dc c hk js) R H σ ρ → Tk c.X E →
    (∀ js' R' H' σ' ρ', Sl (dc c hk js') R' H' σ' ρ' → nx js' ρ' → Ds.nx σ' H') → (∀ js' R' H' σ' ρ' v d, Sl (dc c hk js') R' H' σ' ρ' → Dq (dW c.W hk js') R' H' v d → rt js' d → Ds.rt v H') →
    wpAny (model c.X.prog c.X.w) c.X.A (execs st c.X.env) (SP c.X pins Ds) c.X.xe s
section
variable {c : Cy cls} {hk : c.W.kind = 1} {js : List Int} {R : Addr → Prop} {H H' : Hp} {σ : L2.St} {ρ : Rho} {nx : List Int → Rho → Prop} {rt : List Int → D → Prop}
def tUD (c : Cy cls) (hk : c.W.kind = 1) (st : List Stmt) (nx : List Int → Rho → Prop) (rt : List Int → D → Prop) : TS := fun Ds σ H => ∃ (js : List Int) (ρ : Rho) (R : Addr → Prop) (E : L2.St → XK), Sl (dc c hk js) R H σ ρ ∧ Tk c.X E ∧
  (∀ js' R' H' σ' ρ', Sl (dc c hk js') R' H' σ' ρ' → nx js' ρ' → Ds.nx σ' H') ∧ (∀ js' R' H' σ' ρ' v d, Sl (dc c hk js') R' H' σ' ρ' → Dq (dW c.W hk js') R' H' v d → rt js' d → Ds.rt v H') ∧ WD c hk js st ρ nx rt
theorem psD (c : Cy cls) (hk : c.W.kind = 1) (st : List Stmt) (nx : List Int → Rho → Prop) (rt : List Int → D → Prop) : PSs c.X st (tUD c hk st nx rt) := ⟨fun pins s σ H Ds I ⟨js, ρ, R, E, S, tk, en, er, w⟩ => w.run pins s σ H R Ds E I S tk en er⟩
theorem wd_nil (h : nx js ρ) : WD c hk js [] ρ nx rt := ⟨fun pins s σ H R Ds E I S tk en er => pss_nil.run pins s σ H Ds I (en js R H σ ρ S h)⟩
theorem wd_ws {st : Stmt} {rest : List Stmt} (h : WS (dc c hk js) st ρ { nx := fun ρ' => WD c hk js rest ρ' nx rt, rt := fun _ d => rt js d }) : WD c hk js (st :: rest) ρ nx rt :=
  ⟨fun pins s σ H R Ds E I S tk en er => (pss_cons (psU (dc c hk js) st) (psD c hk rest nx rt)).run pins s σ H Ds I
    ⟨ρ, R, E, { nx := fun ρ' => WD c hk js rest ρ' nx rt, rt := fun _ d => rt js d }, S, tk, ⟨fun R1 H1 σ1 ρ1 S1 k w => ⟨js, ρ1, R1, E, S1, tk, en, er, w⟩, fun R1 H1 σ1 ρ1 v d S1 q h => er js R1 H1 σ1 ρ1 v d S1 q h, fun _ _ _ _ _ _ z => z.elim, fun _ _ _ _ _ _ z => z.elim⟩, fun _ _ _ _ _ _ _ _ _ z => z.elim, h⟩⟩
theorem exOkF {E : XK} : ExOk c R H E (fun _ => False) := fun _ _ _ _ _ _ _ z => z.elim
theorem wd_if {t : Expr} {a b : List Stmt} {pos : Pos} {rest : List Stmt} (h : WT (dc c hk js) t ρ (fun k => (k = true → WD c hk js a ρ (fun js' ρ' => WD c hk js' rest ρ' nx rt) rt) ∧ (k = false → WD c hk js b ρ (fun js' ρ' => WD c hk js' rest ρ' nx rt) rt)) (fun _ => False)) :
    WD c hk js (.If t a b pos :: rest) ρ nx rt :=
  ⟨fun pins s σ H R Ds E I S tk en er => (pss_cons (ps_if (ptU (dc c hk js) t) (psD c hk a (fun js' ρ' => WD c hk js' rest ρ' nx rt) rt) (psD c hk b (fun js' ρ' => WD c hk js' rest ρ' nx rt) rt)) (psD c hk rest nx rt)).run pins s σ H Ds I
    (tUT.mk h S (tk.at σ) exOkF fun k H1 ⟨g, ok, h1⟩ => by
      have S1 := S.grow g ok
      cases k with
      | true => exact ⟨js, ρ, _, E, S1, tk, fun js' R' H' σ' ρ' S' w => ⟨js', ρ', R', E, S', tk, en, er, w⟩, er, h1.1 rfl⟩
      | false => exact ⟨js, ρ, _, E, S1, tk, fun js' R' H' σ' ρ' S' w => ⟨js', ρ', R', E, S', tk, en, er, w⟩, er, h1.2 rfl⟩)⟩
theorem wd_mono {st : List Stmt} {nx' : List Int → Rho → Prop} (w : WD c hk js st ρ nx rt) (h : ∀ js ρ, nx js ρ → nx' js ρ) : WD c hk js st ρ nx' rt := ⟨fun pins s σ H R Ds E I S tk en er => w.run pins s σ H R Ds E I S tk (fun js' R' H' σ' ρ' S' k => en js' R' H' σ' ρ' S' (h js' ρ' k)) er⟩
def flatSv : Option Sv → Bool
  | none => true
  | some (.val (.own 3)) => true
  | some (.val (.int _)) => true
  | _ => false
theorem flat_of (h : ρ.all flatSv = true) (j : Nat) (o : Sv) (e : ρ[j]? = some (some o)) : ∃ d, o = .val d ∧ (d = .own 3 ∨ ∃ n, d = .int n) := by
  have z := List.all_eq_true.mp h _ (List.mem_of_getElem? e)
  unfold flatSv at z
  split at z
  · rename_i e2
    cases e2
  · rename_i e2
    cases e2
    exact ⟨_, rfl, .inl rfl⟩
  · rename_i n e2
    cases e2
    exact ⟨_, rfl, .inr ⟨n, rfl⟩⟩
  · exact Bool.noConfusion z
/-- x[k] = e, x the draw list -/
theorem wd_set (i : Nat) {x : Str} {b e : Expr} {npos spos pos : Pos} {rest : List Stmt} (hN : c.X.N[i]? = some x) (hρ : ρ[i]? = some (some (.val (.own 3)))) 
    (h : WE (dc c hk js) e ρ (fun d => ∃ n, d = .int n ∧ WE (dc c hk js) b ρ (fun y => ∃ k : Nat, y = .int ((k + 1 : Nat) : Int) ∧ k < 5 ∧ (k = 0 → 0 ≤ n) ∧ js.length = 5 ∧ (∀ z, js[0]? = some z → 0 ≤ z) ∧ WD c hk (js.set k n) rest ρ nx rt) (fun _ => False)) (fun _ => False))
    (hfl : ρ.all flatSv = true := by rfl) (hv : Vis c.X.env.scope x := by first | exact Or.inl rfl | exact Or.inr (Or.inl rfl) | exact Or.inr (Or.inr rfl)) (hd : (x == ("__debug__" : Str)) = false := by decide) (hcd : (x == ("__classdict__" : Str)) = false := by decide)
    (hsub : ∀ v, assign (.Subscript (.Name x npos) b spos) c.X.env v = (do
      let ov ← holding [v] (eval (.Name x npos) c.X.env)
      let iv ← holding [v, ov] (eval b c.X.env)
      standAt spos
      holding [v, ov, iv] (setItem ov iv v)
      release [v, ov, iv] []) := by intro _; rfl)
    (hs : swapsWithSole [.Subscript (.Name x npos) b spos] e pos.line c.X.env = pure false := by rfl) (hw : swappedStores [.Subscript (.Name x npos) b spos] e c.X.env = pure none := by rfl)
    (ha : (assignEach [.Subscript (.Name x npos) b spos] c.X.env).map (·.2) = [assign (.Subscript (.Name x npos) b spos) c.X.env] := by rfl) : WD c hk js (.Assign [.Subscript (.Name x npos) b spos] e pos :: rest) ρ nx rt :=
  ⟨fun pins s σ H R Ds E I S tk en er => (pss_cons (ps_asg (peU (dc c hk js) e) (pg_sub (pe_var hN hv hd hcd) (peU (dc c hk js) b) set_list hsub) hs hw ha) (psD c hk rest nx rt)).run pins s σ H Ds I
    (tU.mk h S (tk.at σ) exOkF fun v H1 ⟨d, g1, ok1, q1, n, ed, w1⟩ => by
      subst ed
      cases q1
      have S1 := S.grow g1 ok1
      obtain ⟨v0, s0, q0⟩ := S.val i _ hρ
      refine ⟨v0, s0, tU.mk w1 S1 (tk.at σ) exOkF fun vy H2 ⟨dy, g2, ok2, q2, k, ey, kl, k0, l5, z0, w2⟩ => ?_⟩
      subst ey
      cases q2
      cases q0
      have S2 := S1.grow g2 ok2
      obtain ⟨oka, okd⟩ := ok2
      have hl : (V.ref c.W.cl :: js.map V.int).length = 6 := by simp [l5]
      refine ⟨c.W.dr, _, _, k + 1, rfl, rfl, okd, ?_, ?_⟩
      · rw [hl]
        have := ixN_nat (n := 6) (i := k + 1) (by omega)
        exact this
      · have hset : (V.ref c.W.cl :: js.map V.int).set (k + 1) (V.int n) = V.ref c.W.cl :: (js.set k n).map V.int := by
          rw [List.set_cons_succ, List.map_set]
        rw [hset]
        have hmv := (c.W.dmv hk).1
        have hcl := (c.W.dmv hk).2.1
        have dr0 : ∀ a, ¬ c.W.mv a → a ≠ c.W.dr := fun a h z => h (z ▸ hmv)
        obtain ⟨i1, i2, i3, i4, i5, p0, pc, pd⟩ := c.W.dok hk H2 oka
        have ok3 : (dW c.W hk (js.set k n)).ok (upd H2 c.W.dr (.lst (.ref c.W.cl :: (js.set k n).map V.int))) := by
          refine ⟨c.W.dset hk H2 _ oka (fun a ha _ => upd_ne ha) ?_, upd_same⟩
          match js, l5, z0, k, kl, k0 with
          | [a1, a2, a3, a4, a5], _, z0, k, kl, k0 =>
            have a1p := z0 a1 rfl
            match k, kl, k0 with
            | 0, _, k0 => exact ⟨n, a2, a3, a4, a5, k0 rfl, by rw [upd_ne hcl]; exact pc, upd_same⟩
            | 1, _, _ => exact ⟨a1, n, a3, a4, a5, a1p, by rw [upd_ne hcl]; exact pc, upd_same⟩
            | 2, _, _ => exact ⟨a1, a2, n, a4, a5, a1p, by rw [upd_ne hcl]; exact pc, upd_same⟩
            | 3, _, _ => exact ⟨a1, a2, a3, n, a5, a1p, by rw [upd_ne hcl]; exact pc, upd_same⟩
            | 4, _, _ => exact ⟨a1, a2, a3, a4, n, a1p, by rw [upd_ne hcl]; exact pc, upd_same⟩
            | k + 5, h, _ => exact absurd h (by omega)
        refine ⟨js.set k n, ρ, fun _ => False, E, ?_, tk, en, er, w2⟩
        exact {
          ndr := fun _ _ z => z
          ok := ok3
          ok0 := S2.ok0
          gr := fun a o h z => by
            rw [upd_ne (dr0 a h)]
            exact S2.gr a o h z
          sub := fun _ z => z.elim
          len := S2.len
          val := fun j d hj => by
            obtain ⟨v, s1, q⟩ := S2.val j d hj
            obtain ⟨d', ed, hd⟩ := flat_of hfl j _ hj
            cases ed
            rcases hd with rfl | ⟨m, rfl⟩
            · cases q with
              | own e => exact ⟨_, s1, .own rfl⟩
            · cases q
              exact ⟨_, s1, .int m⟩
          lst := fun j d hj => by
            obtain ⟨d', ed, _⟩ := flat_of hfl j _ hj
            cases ed
          sep := fun j j2 d d2 a _ hj => by
            obtain ⟨d', ed, _⟩ := flat_of hfl j _ hj
            cases ed
          ob := fun j a k fs hj => by
            obtain ⟨d', ed, _⟩ := flat_of hfl j _ hj
            cases ed
          exc := fun j e hj => by
            obtain ⟨d', ed, _⟩ := flat_of hfl j _ hj
            cases ed
          dc := fun j e hj => by
            obtain ⟨d', ed, _⟩ := flat_of hfl j _ hj
            cases ed
          sepd := fun j j2 d d2 a _ hj => by
            obtain ⟨d', ed, _⟩ := flat_of hfl j _ hj
            cases ed })⟩
end
end Vl
end
section
set_option maxHeartbeats 4000000
namespace Vl
open PySem PySem.Spec PyProof.Rows L2
variable {cls : Nat → Addr}
section
variable {c : Cy cls} {hk : c.W.kind = 1} {js : List Int} {ρ : Rho} {P : D → Prop} {ex : Xd → Prop}
/-- x[k], k > 0 -/
theorem we_dix {i : Nat} {x : Str} {b : Expr} {npos pos : Pos} (hN : c.X.N[i]? = some x) (hρ : ρ[i]? = some (some (.val (.own 3)))) (h : WE (dc c hk js) b ρ (fun y => ∃ (k : Nat) (n : Int), y = .int ((k + 1 : Nat) : Int) ∧ js[k]? = some n ∧ P (.int n)) ex)
    (hv : Vis c.X.env.scope x := by first | exact Or.inl rfl | exact Or.inr (Or.inl rfl) | exact Or.inr (Or.inr rfl)) (hd : (x == ("__debug__" : Str)) = false := by decide) (hcd : (x == ("__classdict__" : Str)) = false := by decide) (hp : PlainIx b := by exact fun _ _ => rfl) : WE (dc c hk js) (.Subscript (.Name x npos) b pos) ρ P ex :=
  we_of (c := dc c hk js) (pe_ix ix_seq (pe_var hN hv hd hcd) (peU (dc c hk js) b) hp) fun σ H R E S p y => by
    obtain ⟨v, s0, q0⟩ := S.val i _ hρ
    refine ⟨v, s0, tU.mk h S p y fun vy H1 ⟨dy, g, ok, q, k, n, e, hj, hp⟩ => ?_⟩
    subst e
    cases q
    cases q0
    refine .inl ⟨c.W.dr, _, _, .int n, rfl, rfl, sq_l ok.2, ?_, .int n, g, ok, .int n, hp⟩
    refine atI_nat ?_
    rw [List.getElem?_cons_succ, List.getElem?_map, hj]
    rfl
/-- the cells, H as it stands -/
theorem cells_at {H : Hp} (ok : (dW c.W hk js).ok H) : H c.W.cl = some (.lst (c.W.ns.map V.int)) := by
  obtain ⟨_, _, _, _, _, _, h, _⟩ := c.W.dok hk H ok.1
  exact h
/-- len(x[0]) -/
theorem we_dlen {i : Nat} {x : Str} {b : Expr} {npos bpos pp pos : Pos} (nb : NB c.X.mg) (hN : c.X.N[i]? = some x) (hρ : ρ[i]? = some (some (.val (.own 3)))) (h : WE (dc c hk js) b ρ (fun y => y = .int 0 ∧ P (.int (c.W.ns.length : Nat))) ex)
    (hv : Vis c.X.env.scope x := by first | exact Or.inl rfl | exact Or.inr (Or.inl rfl) | exact Or.inr (Or.inr rfl)) (hd : (x == ("__debug__" : Str)) = false := by decide) (hcd : (x == ("__classdict__" : Str)) = false := by decide) (hp : PlainIx b := by exact fun _ _ => rfl) (hg : Gl c.X "len" := by rfl)
    (he : starEach [.Subscript (.Name x npos) b bpos] c.X.env = (false, eval (.Subscript (.Name x npos) b bpos) c.X.env) :: starEach [] c.X.env := by rfl) (hpl : (backTo pos (starEach [] c.X.env)).any (·.1) = false := by rfl) : WE (dc c hk js) (.Call (.Name "len" pp) [.Subscript (.Name x npos) b bpos] [] pos) ρ P ex :=
  we_of (c := dc c hk js) (pe_callB call_len hg (nb _ bl_len) bt_len (pa_cons (pe_ix ix_seq (pe_var hN hv hd hcd) (peU (dc c hk js) b) hp) pa_nil he) (by decide) (by decide) he hpl) fun σ H R E S p y => by
    obtain ⟨v, s0, q0⟩ := S.val i _ hρ
    refine ⟨v, s0, tU.mk h S p y fun vy H1 ⟨dy, g, ok, q, e, hp⟩ => ?_⟩
    subst e
    cases q
    cases q0
    refine .inl ⟨c.W.dr, _, _, .ref c.W.cl, rfl, rfl, sq_l ok.2, ?_, ?_⟩
    · exact atI_nat (i := 0) rfl
    · exact ⟨.ref c.W.cl, c.W.ns.length, rfl, .inl ⟨_, sq_l (cells_at (hk := hk) ok), by rw [List.length_map]⟩, .int (c.W.ns.length : Nat), g, ok, .int _, hp⟩
/-- x[0][b] -/
theorem we_dcell {i : Nat} {x : Str} {b0 b : Expr} {npos bpos pos : Pos} (hN : c.X.N[i]? = some x) (hρ : ρ[i]? = some (some (.val (.own 3))))
    (h : WE (dc c hk js) b0 ρ (fun y => y = .int 0 ∧ WE (dc c hk js) b ρ (fun y => ∃ (k : Nat) (n : Int), y = .int (k : Int) ∧ c.W.ns[k]? = some n ∧ P (.int n)) ex) ex)
    (hv : Vis c.X.env.scope x := by first | exact Or.inl rfl | exact Or.inr (Or.inl rfl) | exact Or.inr (Or.inr rfl)) (hd : (x == ("__debug__" : Str)) = false := by decide) (hcd : (x == ("__classdict__" : Str)) = false := by decide) (hp : PlainIx b := by exact fun _ _ => rfl) (hp0 : PlainIx b0 := by exact fun _ _ => rfl) :
    WE (dc c hk js) (.Subscript (.Subscript (.Name x npos) b0 bpos) b pos) ρ P ex :=
  we_of (c := dc c hk js) (pe_ix ix_seq (pe_ix ix_seq (pe_var hN hv hd hcd) (peU (dc c hk js) b0) hp0) (peU (dc c hk js) b) hp) fun σ H R E S p y => by
    obtain ⟨v, s0, q0⟩ := S.val i _ hρ
    refine ⟨v, s0, tU.mk h S p y fun vy H1 ⟨dy, g, ok, q, e, w1⟩ => ?_⟩
    subst e
    cases q
    cases q0
    refine .inl ⟨c.W.dr, _, _, .ref c.W.cl, rfl, rfl, sq_l ok.2, ?_, ?_⟩
    · exact atI_nat (i := 0) rfl
    · have S1 := S.grow g ok
      refine tU.mk w1 S1 p (y.grow g ok) fun vy2 H2 ⟨d2, g2, ok2, q2, k, n, e2, hn, hp⟩ => ?_
      subst e2
      cases q2
      refine .inl ⟨c.W.cl, _, _, .int n, rfl, rfl, sq_l (cells_at (hk := hk) ok2), ?_, .int n, g.trans g2, ok2, .int n, hp⟩
      refine atI_nat ?_
      rw [List.getElem?_map, hn]
      rfl
end
section
variable {c : Cy cls} {ρ : Rho}
theorem op_powW {X : Cx} : OpR X (binaryOp .Pow) (rI (fun i j => 0 ≤ j ∧ (Builtin.Int.intBits i : Int) * j ≤ 2 ^ 27) fun i j => .int (i ^ j.toNat)) := opI fun _ _ _ _ _ _ _ hc q => pow_int hc.1 hc.2 q
theorem we_powW {a b : Expr} {pos : Pos} {P : D → Prop} {ex : Xd → Prop} (h : WE c a ρ (fun x => WE c b ρ (fun y => ∃ i j, x = .int i ∧ y = .int j ∧ (0 ≤ j ∧ (Builtin.Int.intBits i : Int) * j ≤ 2 ^ 27) ∧ P (.int (i ^ j.toNat))) ex) ex) : WE c (.BinOp a .Pow b pos) ρ P ex :=
  we_bin (pe_op op_powW (peU c a) (peU c b)) (opd_I _ _ (fun i j => .int (i ^ j.toNat)) (fun _ _ _ _ => .int _)) h
end
/-! ### the def that draws -/
def fs_pick : FS := fun ds rt _ => ∃ n : Int, ds = [.own 1, .int n] ∧ n < 1000000000 ∧ ∀ r : Int, 0 ≤ r → (r < n ∨ (n < 2 ∧ r = 0)) → rt (.int r)
section
variable {P : Program} {w : World} {K : PySem.W.Frag} {mg : Str → Option Value} {base : Heap}
theorem draw_ok {x qual y1 y2 : Str} {st : Stmt} {f : Addr} {fd : FuncData} {N : List Str} {k : Nat} (F : Fun K x qual st f fd) (S : FnScope N [y1, y2] (defScope st))
    (body : ∀ (cdv : Value) (A : Around) (outer : List Env) (s : Shared) (H : Hp) (E : XK) (W : Wd cls) (hk : W.kind = 1) (js : List Int) (n : Int), Room k (A.deeper (envOfC qual (defScope st) s.heap.objs.size f cdv)) → n < 1000000000 → js.length = 5 → (∀ z, js[0]? = some z → 0 ≤ z) →
      WD (cyOf P w K mg base N qual (defScope st) f cdv A outer s H E W (fun _ => False)) hk js (defBody st) (rho0 N [.own 3, .int n]) (fun _ _ => False) (fun _ d => ∃ r : Int, d = .int r ∧ 0 ≤ r ∧ (r < n ∨ (n < 2 ∧ r = 0)))) :
    FnOk P w K mg base (L2N.CX P w) (k + 1) f fd [y1, y2] (spOf cls fs_pick) := by
  refine okN F S (fun vs H Q E h => ?_) (fun cdv A outer s H vs Q E hr h => ?_)
  · obtain ⟨W, R, ds, rt, ex, _, _, q, ⟨n, rfl, _⟩, _⟩ := h
    rw [q.length]
    rfl
  · obtain ⟨W, R, ds, rt, ex, nd, ok, q, ⟨n, rfl, hlim, hn⟩, k1, k2⟩ := h
    cases q with
    | cons q1 q =>
      cases q with
      | cons q2 q =>
        cases q
        cases q2
        cases q1 with
        | own hk =>
          obtain ⟨i1, i2, i3, i4, i5, p0, pc, pd⟩ := W.dok hk H ok
          have S0 := Sl.start (c := dc (cyOf P w K mg base N qual (defScope st) f cdv A outer s H E W (fun _ => False)) hk [i1, i2, i3, i4, i5]) (N := N) (vs := [.ref W.dr, .int n]) (ds := [.own 3, .int n]) (fun _ _ z => z) ⟨ok, pd⟩ (.cons (.own rfl) (.cons (.int n) .nil))
          refine ⟨_, psD (cyOf P w K mg base N qual (defScope st) f cdv A outer s H E W (fun _ => False)) hk _ (fun _ _ => False) (fun _ d => ∃ r : Int, d = .int r ∧ 0 ≤ r ∧ (r < n ∨ (n < 2 ∧ r = 0))), [i1, i2, i3, i4, i5], rho0 N [.own 3, .int n], fun _ => False, fun _ => E, S0, L2N.takes_of rfl rfl rfl rfl,
            fun js' R' H' σ' ρ' S' h => h.elim, fun js' R' H' σ' ρ' v d S' qv h => ?_, body cdv A outer s H E W hk _ n hr hlim rfl (fun z e => by cases e; exact p0)⟩
          obtain ⟨r, rfl, r0, r1⟩ := h
          cases qv
          exact k1 (.int r) (.int r) H' S'.gr S'.ok.1 (.int r) (hn r r0 r1)
end
end Vl
end
section
set_option maxHeartbeats 4000000
namespace Vl
open PySem PySem.Spec PyProof.Rows L2
variable {cls : Nat → Addr}
/-! ### trees: plain data whose lists nobody else has -/
mutual
/-- the lists of v lie in F, each once; its tuples in T -/
inductive Mq (T : Addr → Prop) (H : Hp) : (Addr → Prop) → V → D → Prop
  | non {F : Addr → Prop} : Mq T H F .non .non
  | bl {F : Addr → Prop} (b : Bool) : Mq T H F (.bl b) (.bl b)
  | int {F : Addr → Prop} (i : Int) : Mq T H F (.int i) (.int i)
  | str {F : Addr → Prop} (x : Str) : Mq T H F (.str x) (.str x)
  | lst {F G : Addr → Prop} {a : Addr} {vs : List V} {ds : List D} : F a → H a = some (.lst vs) → MqL T H G vs ds → (∀ b, G b → F b ∧ b ≠ a) → Mq T H F (.ref a) (.lst ds)
  | tup {F : Addr → Prop} {a : Addr} {vs : List V} {ds : List D} : T a → H a = some (.tup vs) → MqL T H F vs ds → Mq T H F (.ref a) (.tup ds)
  | dit {F : Addr → Prop} {a : Addr} {ks : List (List L2.Key)} : F a → H a = some (.dT (ks.map fun k => (k, V.bl true))) → Mq T H F (.ref a) (.dit ks (ks.map fun _ => D.bl true))
inductive MqL (T : Addr → Prop) (H : Hp) : (Addr → Prop) → List V → List D → Prop
  | nil {F : Addr → Prop} : MqL T H F [] []
  | cons {F F1 F2 : Addr → Prop} {v : V} {d : D} {vs : List V} {ds : List D} : Mq T H F1 v d → MqL T H F2 vs ds → (∀ a, F1 a → F a) → (∀ a, F2 a → F a) → (∀ a, F1 a → ¬ F2 a) → MqL T H F (v :: vs) (d :: ds)
end
section
variable {T T' F F' G : Addr → Prop} {H H' : Hp}
mutual
theorem Mq.mono3 (hT : ∀ a o, T a → H a = some o → T' a ∧ H' a = some o) : ∀ {F F' : Addr → Prop} {v : V} {d : D}, (∀ a, F a → F' a) → (∀ a o, F a → H a = some o → H' a = some o) → Mq T H F v d → Mq T' H' F' v d
  | _, _, _, _, _, _, .non => .non
  | _, _, _, _, _, _, .bl b => .bl b
  | _, _, _, _, _, _, .int i => .int i
  | _, _, _, _, _, _, .str x => .str x
  | _, _, _, _, hF, hH, .lst fa e q n => .lst (hF _ fa) (hH _ _ fa e) (MqL.mono3 hT (F' := _) (fun _ z => z) (fun a o g e => hH a o (n a g).1 e) q) (fun b g => ⟨hF b (n b g).1, (n b g).2⟩)
  | _, _, _, _, hF, hH, .tup t e q => .tup (hT _ _ t e).1 (hT _ _ t e).2 (MqL.mono3 hT hF hH q)
  | _, _, _, _, hF, hH, .dit fa e => .dit (hF _ fa) (hH _ _ fa e)
theorem MqL.mono3 (hT : ∀ a o, T a → H a = some o → T' a ∧ H' a = some o) : ∀ {F F' : Addr → Prop} {vs : List V} {ds : List D}, (∀ a, F a → F' a) → (∀ a o, F a → H a = some o → H' a = some o) → MqL T H F vs ds → MqL T' H' F' vs ds
  | _, _, _, _, _, _, .nil => .nil
  | _, _, _, _, hF, hH, .cons q r n1 n2 n3 => .cons (Mq.mono3 hT (fun _ z => z) (fun a o g e => hH a o (n1 a g) e) q) (MqL.mono3 hT (fun _ z => z) (fun a o g e => hH a o (n2 a g) e) r) (fun a z => hF a (n1 a z)) (fun a z => hF a (n2 a z)) n3
end
theorem Mq.wide (hF : ∀ a, F a → F' a) {v : V} {d : D} (q : Mq T H F v d) : Mq T H F' v d := q.mono3 (fun _ _ t e => ⟨t, e⟩) hF fun _ _ _ e => e
theorem MqL.wide (hF : ∀ a, F a → F' a) {v : List V} {d : List D} (q : MqL T H F v d) : MqL T H F' v d := q.mono3 (fun _ _ t e => ⟨t, e⟩) hF fun _ _ _ e => e
theorem Mq.same {v : V} {d : D} (h : Same H H') (q : Mq T H F v d) : Mq T H' F v d := q.mono3 (fun a o t e => ⟨t, h a o e⟩) (fun _ z => z) fun a o _ e => h a o e
mutual
/-- outside F all the same -/
theorem Mq.off (hT : ∀ a, T a → ¬ G a) (h : ∀ a, ¬ G a → H' a = H a) : ∀ {F : Addr → Prop} {v : V} {d : D}, (∀ a, F a → ¬ G a) → Mq T H F v d → Mq T H' F v d
  | _, _, _, _, .non => .non
  | _, _, _, _, .bl b => .bl b
  | _, _, _, _, .int i => .int i
  | _, _, _, _, .str x => .str x
  | _, _, _, hF, .lst fa e q n => .lst fa ((h _ (hF _ fa)).trans e) (MqL.off hT h (fun a g => hF a (n a g).1) q) n
  | _, _, _, hF, .tup t e q => .tup t ((h _ (hT _ t)).trans e) (MqL.off hT h hF q)
  | _, _, _, hF, .dit fa e => .dit fa ((h _ (hF _ fa)).trans e)
theorem MqL.off (hT : ∀ a, T a → ¬ G a) (h : ∀ a, ¬ G a → H' a = H a) : ∀ {F : Addr → Prop} {v : List V} {d : List D}, (∀ a, F a → ¬ G a) → MqL T H F v d → MqL T H' F v d
  | _, _, _, _, .nil => .nil
  | _, _, _, hF, .cons q r n1 n2 n3 => .cons (Mq.off hT h (fun a g => hF a (n1 a g)) q) (MqL.off hT h (fun a g => hF a (n2 a g)) r) n1 n2 n3
end
theorem zip_trues (ks : List (List L2.Key)) : ks.zip (ks.map fun _ => V.bl true) = ks.map fun k => (k, V.bl true) := by
  induction ks with
  | nil => rfl
  | cons k ks ih => rw [List.map_cons, List.map_cons, List.zip_cons_cons, ih]
theorem dql_trues {W : Wd cls} {R : Addr → Prop} {H : Hp} : ∀ ks : List (List L2.Key), DqL W R H (ks.map fun _ => V.bl true) (ks.map fun _ => D.bl true)
  | [] => .nil
  | _ :: ks => .cons (.bl true) (dql_trues ks)
theorem MqL.length : ∀ {F : Addr → Prop} {vs : List V} {ds : List D}, MqL T H F vs ds → vs.length = ds.length
  | _, _, _, .nil => rfl
  | _, _, _, .cons _ r _ _ _ => by rw [List.length_cons, List.length_cons, r.length]
mutual
theorem Mq.dq {W : Wd cls} : ∀ {F : Addr → Prop} {v : V} {d : D}, (∀ a, F a → G a) → (∀ a, T a → G a) → Mq T H F v d → Dq W G H v d
  | _, _, _, _, _, .non => .non
  | _, _, _, _, _, .bl b => .bl b
  | _, _, _, _, _, .int i => .int i
  | _, _, _, _, _, .str x => .str x
  | _, _, _, hF, hT, .lst fa e q n => .lst (hF _ fa) e (MqL.dql (fun a g => hF a (n a g).1) hT q)
  | _, _, _, hF, hT, .tup t e q => .tup (hT _ t) e (MqL.dql hF hT q)
  | _, _, _, hF, hT, .dit (ks := ks) fa e => .dit (hF _ fa) (by rw [zip_trues]; exact e) (by rw [List.length_map]) (dql_trues ks)
theorem MqL.dql {W : Wd cls} : ∀ {F : Addr → Prop} {v : List V} {d : List D}, (∀ a, F a → G a) → (∀ a, T a → G a) → MqL T H F v d → DqL W G H v d
  | _, _, _, _, _, .nil => .nil
  | _, _, _, hF, hT, .cons q r n1 n2 _ => .cons (Mq.dq (fun a g => hF a (n1 a g)) hT q) (MqL.dql (fun a g => hF a (n2 a g)) hT r)
end
/-- one item changes from within -/
theorem MqL.at : ∀ {F : Addr → Prop} {vs : List V} {ds : List D} {i : Nat} {d : D}, (∀ a, T a → ¬ F a) → MqL T H F vs ds → ds[i]? = some d → ∃ v G, vs[i]? = some v ∧ Mq T H G v d ∧ (∀ a, G a → F a) ∧ ∀ H' d', (∀ a, ¬ G a → H' a = H a) → Mq T H' G v d' → MqL T H' F vs (ds.set i d')
  | _, _, _, _, _, _, .nil, e => by simp at e
  | _, _, _, 0, _, hd, .cons (F1 := F1) (v := v) q r n1 n2 n3, e => by
    simp at e
    subst e
    exact ⟨v, F1, rfl, q, n1, fun H' d' h q' => .cons q' (r.off (G := F1) (fun a t g => hd a t (n1 a g)) h (fun a g g1 => n3 a g1 g)) n1 n2 n3⟩
  | _, _, _, i + 1, _, hd, .cons q r n1 n2 n3, e => by
    obtain ⟨v', G', e1, q1, hG, k⟩ := MqL.at (fun a t g => hd a t (n2 a g)) r (i := i) (by simpa using e)
    exact ⟨v', G', by simpa using e1, q1, fun a g => n2 a (hG a g), fun H' d' h q' => .cons (q.off (G := G') (fun a t g => hd a t (n2 a (hG a g))) h (fun a g g1 => n3 a g (hG a g1))) (k H' d' h q') n1 n2 n3⟩
end
end Vl
end
section
set_option maxHeartbeats 4000000
namespace Vl
open PySem PySem.Spec PyProof.Rows L2
variable {cls : Nat → Addr}
/-! ### answers whose lists are new -/
def FreshP (R : Addr → Prop) (H H' : Hp) (v : V) (d : D) : Prop := ∃ F, Mq (fun a => Nw R H a ∧ ¬ F a) H' F v d ∧ ∀ a, F a → H a = none ∧ H' a ≠ none
def FinF (c : Cy cls) (R : Addr → Prop) (H : Hp) (P : D → Prop) : VK := fun v H' => ∃ d, Gr c.W H H' ∧ c.W.ok H' ∧ FreshP R H H' v d ∧ P d
section
variable {c : Cy cls} {R R' : Addr → Prop} {H H' H2 : Hp} {σ : L2.St} {ρ : Rho}
theorem FreshP.dq {W : Wd cls} {v : V} {d : D} (f : FreshP R H H' v d) : Dq W (Nw R H) H' v d := by
  obtain ⟨F, q, n⟩ := f
  exact q.dq (fun a z => .inr (n a z).1) fun a z => z.1
theorem FreshP.back {W : Wd cls} {v : V} {d : D} (g : Gr W H H') (ok : W.ok H') (f : FreshP (Nw R H) H' H2 v d) : FreshP R H H2 v d := by
  obtain ⟨F, q, n⟩ := f
  exact ⟨F, q.mono3 (fun a o t e => ⟨⟨nw_nw ok g a t.1, t.2⟩, e⟩) (fun _ z => z) fun _ _ _ e => e, fun a z => ⟨none_back ok g (n a z).1, (n a z).2⟩⟩
theorem FinF.back {P : D → Prop} (g : Gr c.W H H') (ok : c.W.ok H') {v : V} (f : FinF c (Nw R H) H' P v H2) : FinF c R H P v H2 :=
  let ⟨d, h1, h2, h3, h4⟩ := f; ⟨d, g.trans h1, h2, h3.back g ok, h4⟩
theorem FinF.fin {P : D → Prop} {v : V} (f : FinF c R H P v H') : Fin c R H P v H' := let ⟨d, h1, h2, h3, h4⟩ := f; ⟨d, h1, h2, h3.dq, h4⟩
/-- e gives a datum with new lists -/
structure WF (c : Cy cls) (e : Expr) (ρ : Rho) (P : D → Prop) : Prop where
  run : ∀ (pins : List (Addr × Obj)) (s : Shared) (σ : L2.St) (H : Hp) (R : Addr → Prop), Inv c.X pins σ H s → Sl c R H σ ρ →
    wpAny (model c.X.prog c.X.w) c.X.A (eval e c.X.env) (EP c.X pins σ (FinF c R H P)) c.X.xe s
def tUF (c : Cy cls) (e : Expr) : TE := fun σ H Q => ∃ (ρ : Rho) (R : Addr → Prop) (P : D → Prop), Sl c R H σ ρ ∧ WF c e ρ P ∧ ∀ v H', FinF c R H P v H' → Q v H'
theorem WF.mono {e : Expr} {P P' : D → Prop} (w : WF c e ρ P) (h : ∀ d, P d → P' d) : WF c e ρ P' := ⟨fun pins s σ H R I S =>
  thn (w.run pins s σ H R I S) fun u s' ⟨v, H', I', r, d, f1, f2, f3, f4⟩ => ⟨v, H', I', r, d, f1, f2, f3, h d f4⟩⟩
/-! ### calls -/
/-! ### statements that give back -/
end
end Vl
end
section
set_option maxHeartbeats 4000000
namespace Vl
open PySem PySem.Spec PyProof.Rows L2
variable {cls : Nat → Addr}
section
variable {c : Cy cls} {R R' : Addr → Prop} {H H' H2 : Hp} {σ : L2.St} {ρ : Rho}
theorem Sl.to (S : Sl c R H σ ρ) (g : Gr c.W H H') (ok : c.W.ok H') (h1 : ∀ a o, R a → H a = some o → R' a) (h2 : ∀ a, R' a → R a ∨ H a = none) : Sl c R' H' σ ρ where
  ndr := fun b m z => nw_dr S.ok S.ndr b m (h2 b z)
  ok := ok
  ok0 := S.ok0
  gr := S.gr.trans g
  sub := fun a z => (h2 a z).elim (S.sub a) fun z => .inr (none_back S.ok S.gr z)
  len := S.len
  val := fun i d e => by
    obtain ⟨v, e1, e2⟩ := S.val i d e
    exact ⟨v, e1, e2.mono2 fun a o r e => ⟨h1 a o r e, hH_of S.ndr g a o r e⟩⟩
  exc := fun i d e => by
    obtain ⟨v, e1, e2⟩ := S.exc i d e
    exact ⟨v, e1, e2.mono2 fun a o r e => ⟨h1 a o r e, hH_of S.ndr g a o r e⟩⟩
  lst := fun i ds e => by
    obtain ⟨a, vs, e1, e2, e3, e4, e5⟩ := S.lst i ds e
    have nd : ¬ c.W.mv a := fun z => S.ok0 _ (c.W.mvb _ z) e3
    exact ⟨a, vs, e1, fun z => (h2 a z).elim e2 (fun z => by rw [e4] at z; cases z), e3, g a _ nd e4, e5.mono2 fun a o r e => ⟨h1 a o r e, hH_of S.ndr g a o r e⟩⟩
  sep := S.sep
  ob := fun i a k fs e => by
    obtain ⟨dx, vs, e1, e2, e3, e4, e5⟩ := S.ob i a k fs e
    have nd : ¬ c.W.mv a := fun z => S.ok0 _ (c.W.mvb _ z) e3
    exact ⟨dx, vs, e1, fun z => (h2 a z).elim e2 (fun z => by rw [e4] at z; cases z), e3, g a _ nd e4, e5.mono2 fun a o r e => ⟨h1 a o r e, hH_of S.ndr g a o r e⟩⟩
  dc := fun i ds e => by
    obtain ⟨a, vs, e1, e2, e3, e4, e5⟩ := S.dc i ds e
    have nd : ¬ c.W.mv a := fun z => S.ok0 _ (c.W.mvb _ z) e3
    exact ⟨a, vs, e1, fun z => (h2 a z).elim e2 (fun z => by rw [e4] at z; cases z), e3, g a _ nd e4, e5.mono2 fun a o r e => ⟨h1 a o r e, hH_of S.ndr g a o r e⟩⟩
  sepd := S.sepd
/-! ### a comprehension whose items are new -/
end
end Vl
end
section
set_option maxHeartbeats 4000000
namespace Vl
open PySem PySem.Spec PyProof.Rows L2
variable {cls : Nat → Addr}
section
variable {c : Cy cls} {R R' : Addr → Prop} {H H' H2 : Hp} {σ : L2.St} {ρ : Rho}
/-! ### several in a row -/
def WFs (c : Cy cls) (ρ : Rho) : List Expr → (List D → Prop) → Prop
  | [], P => P []
  | e :: es, P => WF c e ρ (fun d => WFs c ρ es (fun ds => P (d :: ds)))
def tFs (c : Cy cls) : List Expr → TA
  | [] => tNil
  | e :: es => tCons (tUF c e) (tFs c es)
def FreshL (R : Addr → Prop) (H H' : Hp) (vs : List V) (ds : List D) : Prop := ∃ F, MqL (fun a => Nw R H a ∧ ¬ F a) H' F vs ds ∧ ∀ a, F a → H a = none ∧ H' a ≠ none
theorem FreshL.cons {W : Wd cls} {v : V} {d : D} {vs : List V} {ds : List D} (ok : W.ok H) (nd : W.nd R) (g1 : Gr W H H') (ok1 : W.ok H') (g2 : Gr W H' H2) (f : FreshP R H H' v d) (fs : FreshL (Al R H) H' H2 vs ds) : FreshL R H H2 (v :: vs) (d :: ds) := by
  obtain ⟨F, q, n⟩ := f
  obtain ⟨G, qs, m⟩ := fs
  have Fnd : ∀ a, F a → ¬ W.mv a := fun a z z2 => W.some H ok _ (W.mvb _ z2) (n a z).1
  have FG : ∀ a, F a → ¬ G a := fun a z z2 => (n a z).2 (m a z2).1
  refine ⟨fun a => F a ∨ G a, .cons (F1 := F) (F2 := G) ?_ ?_ (fun a z => .inl z) (fun a z => .inr z) FG, fun a z => ?_⟩
  · refine q.mono3 (fun a o t e => ?_) (fun _ z => z) fun a o z e => g2 a o (Fnd a z) e
    have nm : ¬ W.mv a := fun z => nw_dr ok nd a z t.1
    exact ⟨⟨t.1, fun z => z.elim t.2 fun z => by rw [(m a z).1] at e; cases e⟩, g2 a o nm e⟩
  · refine qs.mono3 (fun a o t e => ?_) (fun _ z => z) fun _ _ _ e => e
    rcases t.1 with r | r
    · exact ⟨⟨.inl r.1, fun z => z.elim (fun z => r.2 (n a z).1) t.2⟩, e⟩
    · exact ⟨⟨.inr (none_back ok1 g1 r), fun z => z.elim (fun z => (n a z).2 r) t.2⟩, e⟩
  · rcases z with z | z
    · refine ⟨(n a z).1, ?_⟩
      cases e : H' a with
      | none => exact absurd e (n a z).2
      | some o => rw [g2 a o (Fnd a z) e]; exact fun z => nomatch z
    · exact ⟨none_back ok1 g1 (m a z).1, (m a z).2⟩
theorem tFs.mk : ∀ {es : List Expr} {R : Addr → Prop} {H : Hp} {P : List D → Prop} {Q : List V → Hp → Prop}, WFs c ρ es P → Sl c R H σ ρ → (∀ vs ds H', Gr c.W H H' → c.W.ok H' → FreshL R H H' vs ds → P ds → Q vs H') → tFs c es σ H Q
  | [], R, H, P, Q, w, S, k => k [] [] H Gr.refl S.ok ⟨fun _ => False, .nil, fun _ z => z.elim⟩ w
  | e :: es, R, H, P, Q, w, S, k => ⟨ρ, R, _, S, w, fun v H1 ⟨d, g, ok, f, w1⟩ => tFs.mk w1 (S.alive.to g ok (fun a o r _ => r) fun a z => .inl z) fun vs ds H2 g2 ok2 f2 h2 =>
      k (v :: vs) (d :: ds) H2 (g.trans g2) ok2 (FreshL.cons S.ok S.ndr g ok g2 f f2) h2⟩
theorem WFs.len : ∀ {es : List Expr} {P : List D → Prop}, WFs c ρ es P → WFs c ρ es (fun ds => P ds ∧ ds.length = es.length)
  | [], _, w => ⟨w, rfl⟩
  | e :: es, P, w => WF.mono w fun d z => by
    have mono : ∀ {es : List Expr} {P P' : List D → Prop}, WFs c ρ es P → (∀ ds, P ds → P' ds) → WFs c ρ es P' := by
      intro es
      induction es with
      | nil => intro P P' w h; exact h [] w
      | cons e es ih => intro P P' w h; exact WF.mono w fun d z => ih z fun ds k => h (d :: ds) k
    exact mono z.len fun ds k => ⟨k.1, by rw [List.length_cons, List.length_cons, k.2]⟩
end
end Vl
end
section
set_option maxHeartbeats 4000000
namespace Vl
open PySem PySem.Spec PyProof.Rows L2
variable {cls : Nat → Addr}
/-! ### a tree at a name -/
/-- the name i has a tree with the lists F; the slots tell nothing of it -/
structure Tr (c : Cy cls) (R : Addr → Prop) (H : Hp) (σ : L2.St) (ρ : Rho) (i : Nat) (F : Addr → Prop) (v : V) (d : D) : Prop where
  at_ : σ[i]? = some (some v)
  no : ρ[i]? = some none
  q : Mq R H F v d
  nR : ∀ a, F a → ¬ R a
  n0 : ∀ a, F a → c.H0 a = none
  al : ∀ a, F a → H a ≠ none
  sp : ∀ (j : Nat) ds b, ρ[j]? = some (some (.lst ds)) → σ[j]? = some (some (.ref b)) → ¬ F b
  so : ∀ (j : Nat) a k fs, ρ[j]? = some (some (.ob a k fs)) → ¬ F a
  sd : ∀ (j : Nat) q b, ρ[j]? = some (some (.dc q)) → σ[j]? = some (some (.ref b)) → ¬ F b
section
variable {c : Cy cls} {R R' : Addr → Prop} {H H' H2 : Hp} {σ : L2.St} {ρ : Rho} {i : Nat} {F : Addr → Prop} {v : V} {d : D}
theorem Tr.nm (T : Tr c R H σ ρ i F v d) (S : Sl c R H σ ρ) : ∀ a, F a → ¬ c.W.mv a := fun a z z2 => S.ok0 _ (c.W.mvb _ z2) (T.n0 a z)
theorem Tr.grow (T : Tr c R H σ ρ i F v d) (S : Sl c R H σ ρ) (g : Gr c.W H H') (ok : c.W.ok H') : Tr c (Nw R H) H' σ ρ i F v d where
  at_ := T.at_
  no := T.no
  q := T.q.mono3 (fun a o t e => ⟨.inl t, hH_of S.ndr g a o t e⟩) (fun _ z => z) fun a o z e => g a o (T.nm S a z) e
  nR := fun a z y => y.elim (T.nR a z) (T.al a z)
  n0 := T.n0
  al := fun a z => by
    cases e : H a with
    | none => exact absurd e (T.al a z)
    | some o => rw [g a o (T.nm S a z) e]; exact fun z => nomatch z
  sp := T.sp
  so := T.so
  sd := T.sd
theorem Tr.setVal {j : Nat} {w : V} {y : D} (T : Tr c R H σ ρ i F v d) (hj : j ≠ i) : Tr c R H (σ.set j (some w)) (ρ.set j (some (.val y))) i F v d where
  at_ := by rw [List.getElem?_set_ne hj]; exact T.at_
  no := by rw [List.getElem?_set_ne hj]; exact T.no
  q := T.q
  nR := T.nR
  n0 := T.n0
  al := T.al
  sp := fun k ds b h1 h2 => by
    by_cases hk : j = k
    · subst hk
      have z := get_set_self h1
      cases z
    · rw [List.getElem?_set_ne hk] at h1 h2
      exact T.sp k ds b h1 h2
  so := fun k a kk fs h1 => by
    by_cases hk : j = k
    · subst hk
      have z := get_set_self h1
      cases z
    · rw [List.getElem?_set_ne hk] at h1
      exact T.so k a kk fs h1
  sd := fun k q b h1 h2 => by
    obtain ⟨hk, h1⟩ := slot_set (by simp) h1
    rw [List.getElem?_set_ne hk] at h2
    exact T.sd k q b h1 h2
/-- the tree as a datum -/
theorem Sl.pubTree (S : Sl c R H σ ρ) (T : Tr c R H σ ρ i F v d) : Sl c (fun a => R a ∨ F a) H σ (ρ.set i (some (.val d))) := by
  have w : ∀ b, R b → (R b ∨ F b) := fun b r => .inl r
  have S1 : Sl c (fun a => R a ∨ F a) H σ ρ := {
    ndr := fun b m z => z.elim (S.ndr b m) fun z => T.nm S b z m
    ok := S.ok
    ok0 := S.ok0
    gr := S.gr
    sub := fun a z => z.elim (S.sub a) fun z => .inr (T.n0 a z)
    len := S.len
    val := fun j d h => let ⟨v, e1, e2⟩ := S.val j d h; ⟨v, e1, e2.wide w⟩
    lst := fun j e h => let ⟨a, vs, e1, e2, e3, e4, e5⟩ := S.lst j e h; ⟨a, vs, e1, fun z => z.elim e2 (T.sp j e a h e1), e3, e4, e5.wide w⟩
    sep := S.sep
    ob := fun j a k fs h => let ⟨dx, vs, e1, e2, e3, e4, e5⟩ := S.ob j a k fs h; ⟨dx, vs, e1, fun z => z.elim e2 (T.so j a k fs h), e3, e4, e5.wide w⟩
    exc := fun j e h => let ⟨v, e1, e2⟩ := S.exc j e h; ⟨v, e1, e2.wide w⟩
    dc := fun j e h => let ⟨a, vs, e1, e2, e3, e4, e5⟩ := S.dc j e h; ⟨a, vs, e1, fun z => z.elim e2 (T.sd j e a h e1), e3, e4, e5.wide w⟩
    sepd := S.sepd }
  have z := S1.setVal (i := i) (v := v) (d := d) (T.q.dq (fun a z => .inr z) fun a z => .inl z)
  have e : σ.set i (some v) = σ := by
    apply List.ext_getElem?
    intro j
    by_cases hj : i = j
    · subst hj
      have lt : i < σ.length := (List.getElem?_eq_some_iff.mp T.at_).1
      rw [List.getElem?_set_self lt, T.at_]
    · rw [List.getElem?_set_ne hj]
  rw [e] at z
  exact z
structure WX (c : Cy cls) (i : Nat) (d : D) (st : List Stmt) (ρ : Rho) (nx : D → Rho → Prop) (p : Po) : Prop where
  run : ∀ (pins : List (Addr × Obj)) (s : Shared) (σ : L2.St) (H : Hp) (R : Addr → Prop) (Ds : Ends) (E : L2.St → XK) (F : Addr → Prop) (v : V), Inv c.X pins σ H s → Sl c R H σ ρ → Tr c R H σ ρ i F v d → Tk c.X E → EndsOk c R H Ds p → ExS c E p.ex →
    (∀ d' R' H' σ' ρ' F' v', Sl c R' H' σ' ρ' → Tr c R' H' σ' ρ' i F' v' d' → Kp R H R' H' → nx d' ρ' → Ds.nx σ' H') →
    wpAny (model c.X.prog c.X.w) c.X.A (execs st c.X.env) (SP c.X pins Ds) c.X.xe s
def tUX (c : Cy cls) (i : Nat) (st : List Stmt) : TS := fun Ds σ H => ∃ (ρ : Rho) (R : Addr → Prop) (E : L2.St → XK) (F : Addr → Prop) (v : V) (d : D) (nx : D → Rho → Prop) (p : Po), Sl c R H σ ρ ∧ Tr c R H σ ρ i F v d ∧ Tk c.X E ∧ EndsOk c R H Ds p ∧ ExS c E p.ex ∧
  (∀ d' R' H' σ' ρ' F' v', Sl c R' H' σ' ρ' → Tr c R' H' σ' ρ' i F' v' d' → Kp R H R' H' → nx d' ρ' → Ds.nx σ' H') ∧ WX c i d st ρ nx p
theorem psX (c : Cy cls) (i : Nat) (st : List Stmt) : PSs c.X st (tUX c i st) := ⟨fun pins s σ H Ds I ⟨ρ, R, E, F, v, d, nx, p, S, T, tk, en, ex, kn, w⟩ => w.run pins s σ H R Ds E F v I S T tk en ex kn⟩
variable {nx : D → Rho → Prop} {p : Po} {rest : List Stmt}
theorem wx_nil (h : nx d ρ) : WX c i d [] ρ nx p := ⟨fun pins s σ H R Ds E F v I S T tk en ex kn => pss_nil.run pins s σ H Ds I (kn d R H σ ρ F v S T Kp.refl h)⟩
/-- nothing more of it -/
theorem wx_drop {st : List Stmt} (h : WSs c st ρ p) : WX c i d st ρ nx p := ⟨fun pins s σ H R Ds E F v I S T tk en ex kn => h.run pins s σ H _ Ds E I S tk en ex⟩
/-- a test that reads the tree -/
theorem wx_ifD {t : Expr} {a b : List Stmt} {pos : Pos} (h : WT c t (ρ.set i (some (.val d))) (fun k => (k = true → WSs c a ρ { p with nx := fun ρ' => False }) ∧ (k = false → WX c i d rest ρ nx p)) (fun _ => False)) (hb : b = [] := by rfl) : WX c i d (.If t a b pos :: rest) ρ nx p :=
  ⟨fun pins s σ H R Ds E F v I S T tk en ex kn => (pss_cons (ps_if (ptU c t) (pssU c a) (psX c i b)) (psX c i rest)).run pins s σ H Ds I
    (tUT.mk h (S.pubTree T) (tk.at σ) exOkF fun k H1 ⟨g, ok, h1, h2⟩ => by
      have S1 := S.grow g ok
      have T1 := T.grow S g ok
      have k1 := Kp.grow (W := c.W) S.ndr g
      have en1 := en.from k1
      cases k with
      | true => exact ⟨ρ, _, E, { p with nx := fun _ => False }, S1, tk, ⟨fun _ _ _ _ _ _ z => z.elim, en1.rt, en1.bk, en1.ct⟩, ex, h1 rfl⟩
      | false =>
        subst hb
        exact ⟨ρ, _, E, F, v, d, fun d' ρ' => WX c i d' rest ρ' nx p, { p with nx := fun _ => False }, S1, T1, tk, ⟨fun _ _ _ _ _ _ z => z.elim, en1.rt, en1.bk, en1.ct⟩, ex, fun d' R' H' σ' ρ' F' v' S' T' k2 w' => ⟨ρ', R', E, F', v', d', nx, p, S', T', tk, en1.from k2, ex, fun d3 R3 H3 σ3 ρ3 F3 v3 S3 T3 k3 hn => kn d3 R3 H3 σ3 ρ3 F3 v3 S3 T3 ((k1.trans k2).trans k3) hn, w'⟩, wx_nil (h2 rfl)⟩)⟩
end
end Vl
end
section
set_option maxHeartbeats 4000000
namespace Vl
open PySem PySem.Spec PyProof.Rows L2
variable {cls : Nat → Addr}
section
variable {c : Cy cls} {R R' : Addr → Prop} {H H' H2 : Hp} {σ : L2.St} {ρ : Rho} {i : Nat} {F : Addr → Prop} {v : V} {d : D}
variable {nx : D → Rho → Prop} {p : Po} {rest : List Stmt}
theorem Mq.lst_inv {ds : List D} (q : Mq R H F v (.lst ds)) : ∃ a vs G, v = .ref a ∧ F a ∧ H a = some (.lst vs) ∧ MqL R H G vs ds ∧ (∀ b, G b → F b ∧ b ≠ a) := by
  cases q with
  | lst fa e q n => exact ⟨_, _, _, rfl, fa, e, q, n⟩
/-- a list of the tree is followed: the same value in every later heap -/
theorem Mq.sub {ds es : List D} {k : Nat} (hd : ∀ a, R a → ¬ F a) (q : Mq R H F v (.lst ds)) (hk : ds[k]? = some (.lst es)) : ∃ a vs r ws, v = .ref a ∧ F a ∧ H a = some (.lst vs) ∧ vs[k]? = some (.ref r) ∧ F r ∧ H r = some (.lst ws) ∧ vs.length = ds.length ∧ ws.length = es.length := by
  obtain ⟨a, vs, G, e, fa, ea, q, n⟩ := q.lst_inv
  obtain ⟨w, G', e1, q1, hG, _⟩ := q.at (fun a t g => hd a t (n a g).1) hk
  obtain ⟨r, ws, G2, er, fr, ea2, q2, n2⟩ := q1.lst_inv
  subst er
  exact ⟨a, vs, r, ws, e, fa, ea, e1, (n _ (hG _ fr)).1, ea2, q.length, q2.length⟩
/-- the tree is written -/
theorem Sl.mutTree (S : Sl c R H σ ρ) (T : Tr c R H σ ρ i F v d) {t : Addr} {o : HO} (ft : F t) : Sl c R (upd H t o) σ ρ := by
  have h0 := T.n0 t ft
  have nr : ∀ a, R a → a ≠ t := fun a r z => T.nR t ft (z ▸ r)
  have hn : ∀ a o', R a → H a = some o' → upd H t o a = some o' := fun a o' r e => by rw [upd_ne (nr a r)]; exact e
  have nb : ∀ a, c.W.base a → a ≠ t := fun a b z => S.ok0 _ b (z ▸ h0)
  exact {
    ndr := S.ndr
    ok := c.W.keep H _ S.ok fun a b => upd_ne (nb a b)
    ok0 := S.ok0
    gr := fun a o n e => by
      rw [upd_ne (show a ≠ t from fun z => by subst z; rw [h0] at e; cases e)]
      exact S.gr a o n e
    sub := S.sub
    len := S.len
    val := fun j e h => let ⟨v, e1, e2⟩ := S.val j e h; ⟨v, e1, e2.mono (fun _ r => r) hn⟩
    lst := fun j e h => by
      obtain ⟨a, us, e1, e2, e3, e4, e5⟩ := S.lst j e h
      exact ⟨a, us, e1, e2, e3, by rw [upd_ne (show a ≠ t from fun z => T.sp j e a h e1 (z ▸ ft))]; exact e4, e5.mono (fun _ r => r) hn⟩
    sep := S.sep
    ob := fun j a k' fs' h => by
      obtain ⟨dx, us, e1, e2, e3, e4, e5⟩ := S.ob j a k' fs' h
      exact ⟨dx, us, e1, e2, e3, by rw [upd_ne (show a ≠ t from fun z => T.so j a k' fs' h (z ▸ ft))]; exact e4, e5.mono (fun _ r => r) hn⟩
    exc := fun j e h => let ⟨v, e1, e2⟩ := S.exc j e h; ⟨v, e1, e2.mono (fun _ r => r) hn⟩
    dc := fun j e h => by
      obtain ⟨a, us, e1, e2, e3, e4, e5⟩ := S.dc j e h
      exact ⟨a, us, e1, e2, e3, by rw [upd_ne (show a ≠ t from fun z => T.sd j e a h e1 (z ▸ ft))]; exact e4, e5.mono (fun _ r => r) hn⟩
    sepd := S.sepd }
theorem Tr.put (T : Tr c R H σ ρ i F v d) {t : Addr} {o : HO} {d' : D} (q : Mq R (upd H t o) F v d') : Tr c R (upd H t o) σ ρ i F v d' where
  at_ := T.at_
  no := T.no
  q := q
  nR := T.nR
  n0 := T.n0
  al := fun a z => by
    by_cases h : a = t
    · subst h; rw [upd_same]; exact fun z => nomatch z
    · rw [upd_ne h]; exact T.al a z
  sp := T.sp
  so := T.so
  sd := T.sd
end
end Vl
end
section
set_option maxHeartbeats 4000000
namespace Vl
open PySem PySem.Spec PyProof.Rows L2
variable {cls : Nat → Addr}
section
variable {c : Cy cls} {R R' : Addr → Prop} {H H' H2 : Hp} {σ : L2.St} {ρ : Rho} {i : Nat} {F : Addr → Prop} {v : V} {d : D}
variable {nx : D → Rho → Prop} {p : Po} {rest : List Stmt}
/-! ### a tree begins -/
theorem none_set {ρ : Rho} {i : Nat} (h : i < ρ.length) : (ρ.set i none)[i]? = some none := by rw [List.getElem?_set_self h]
theorem back_set {ρ : Rho} {i j : Nat} {w : Sv} (h : (ρ.set i none)[j]? = some (some w)) : i ≠ j ∧ ρ[j]? = some (some w) := by
  by_cases hj : i = j
  · subst hj
    have z := get_set_self h
    cases z
  · rw [List.getElem?_set_ne hj] at h
    exact ⟨hj, h⟩
/-- where the value of a name is a tree that nobody else has -/
theorem Tr.begin (S : Sl c R H σ ρ) (g : Gr c.W H H') (ok : c.W.ok H') (li : i < ρ.length) (q : Mq (fun a => Nw R H a ∧ ¬ F a) H' F v d) (n : ∀ a, F a → H a = none ∧ H' a ≠ none) :
    Sl c (fun a => Nw R H a ∧ ¬ F a) H' (σ.set i (some v)) (ρ.set i none) ∧ Tr c (fun a => Nw R H a ∧ ¬ F a) H' (σ.set i (some v)) (ρ.set i none) i F v d := by
  have S1 : Sl c (fun a => Nw R H a ∧ ¬ F a) H' σ ρ := S.to g ok (fun a o r e => ⟨.inl r, fun z => by rw [(n a z).1] at e; cases e⟩) fun a z => z.1
  refine ⟨S1.setNone, ?_⟩
  exact {
    at_ := by rw [List.getElem?_set_self (by rw [S.len]; exact li)]
    no := none_set li
    q := q
    nR := fun a z y => y.2 z
    n0 := fun a z => none_back S.ok S.gr (n a z).1
    al := fun a z => (n a z).2
    sp := fun j ds b h1 h2 => by
      obtain ⟨hj, h1⟩ := back_set h1
      rw [List.getElem?_set_ne hj] at h2
      obtain ⟨a, vs, e1, e2, e3, e4, e5⟩ := S.lst j ds h1
      rw [e1] at h2
      cases h2
      intro z
      rw [(n _ z).1] at e4
      cases e4
    so := fun j a k fs h1 => by
      obtain ⟨hj, h1⟩ := back_set h1
      obtain ⟨dx, vs, e1, e2, e3, e4, e5⟩ := S.ob j a k fs h1
      intro z
      rw [(n _ z).1] at e4
      cases e4
    sd := fun j ds b h1 h2 => by
      obtain ⟨hj, h1⟩ := back_set h1
      rw [List.getElem?_set_ne hj] at h2
      obtain ⟨a, vs, e1, e2, e3, e4, e5⟩ := S.dc j ds h1
      rw [e1] at h2
      cases h2
      intro z
      rw [(n _ z).1] at e4
      cases e4 }
theorem kp_begin {W : Wd cls} (hd : W.nd R) (g : Gr W H H') (n : ∀ a, F a → H a = none ∧ H' a ≠ none) : Kp R H (fun a => Nw R H a ∧ ¬ F a) H' := fun a o r e => ⟨⟨.inl r, fun z => by rw [(n a z).1] at e; cases e⟩, hH_of hd g a o r e⟩
/-! ### an own list beside the tree -/
end
end Vl
end
section
set_option maxHeartbeats 4000000
namespace Vl
open PySem PySem.Spec PyProof.Rows L2
variable {cls : Nat → Addr}
def IsL (H : Hp) (a : Addr) : Prop := (∃ vs, H a = some (.lst vs)) ∨ ∃ kvs, H a = some (.dT kvs)
/-- no list in it; objects may be -/
inductive Lo : D → Prop
  | non : Lo .non
  | bl (b : Bool) : Lo (.bl b)
  | int (i : Int) : Lo (.int i)
  | str (x : Str) : Lo (.str x)
  | tup {ds : List D} : (∀ d ∈ ds, Lo d) → Lo (.tup ds)
  | obj {k : Nat} {fs : List (Str × D)} : (∀ f ∈ fs, Lo f.2) → Lo (.obj k fs)
theorem lo_l {W : Wd cls} {R R' : Addr → Prop} {H : Hp} : ∀ {vs : List V} {ds : List D}, (∀ d ∈ ds, ∀ v, Dq W R H v d → Dq W R' H v d) → DqL W R H vs ds → DqL W R' H vs ds
  | _, _, _, .nil => .nil
  | _, _, h, .cons q r => .cons (h _ List.mem_cons_self _ q) (lo_l (fun d m => h d (List.mem_cons_of_mem _ m)) r)
theorem lo_f {W : Wd cls} {R R' : Addr → Prop} {H : Hp} : ∀ {gs : List (Str × D)} {fs : List (Str × V)}, (∀ f ∈ gs, ∀ v, Dq W R H v f.2 → Dq W R' H v f.2) → DqF W R H fs gs → DqF W R' H fs gs := by
  intro gs
  induction gs with
  | nil => intro fs h q; cases q; exact .nil
  | cons g gs ih =>
    intro fs h q
    cases q with
    | cons q r => exact .cons (h _ List.mem_cons_self _ q) (ih (fun f m => h f (List.mem_cons_of_mem _ m)) r)
theorem Lo.dq {W : Wd cls} {R : Addr → Prop} {H : Hp} {d : D} (h : Lo d) : ∀ {v : V}, Dq W R H v d → Dq W (fun a => R a ∧ ¬ IsL H a) H v d := by
  induction h with
  | non => intro v q; cases q; exact .non
  | bl b => intro v q; cases q; exact .bl b
  | int i => intro v q; cases q; exact .int i
  | str x => intro v q; cases q; exact .str x
  | tup _ ih =>
    intro v q
    cases q with
    | tup r e q => exact .tup ⟨r, fun z => z.elim (fun ⟨vs, z⟩ => by rw [e] at z; cases z) fun ⟨vs, z⟩ => by rw [e] at z; cases z⟩ e (lo_l (fun d m v q => ih d m q) q)
  | obj _ ih =>
    intro v q
    cases q with
    | obj r e q => exact .obj ⟨r, fun z => z.elim (fun ⟨vs, z⟩ => by rw [e] at z; cases z) fun ⟨vs, z⟩ => by rw [e] at z; cases z⟩ e (lo_f (fun d m v q => ih d m q) q)
end Vl
end
section
set_option maxHeartbeats 4000000
namespace Vl
open PySem PySem.Spec PyProof.Rows L2
end Vl
end
section
set_option maxHeartbeats 4000000
namespace Vl
open PySem PySem.Spec PyProof.Rows L2
variable {cls : Nat → Addr}
/-! ### texts: cut, times, turned about -/
theorem cut_list (z : Str) (lo hi : Option Int) : (cutS z lo hi).cps.toList = (z.cps.toList.drop (HT.sIx z.length 0 lo)).take (HT.sIx z.length z.length hi - HT.sIx z.length 0 lo) := by
  unfold cutS
  simp
theorem cut_suf (z : Str) {k : Nat} : (cutS z (some (k : Int)) none).cps.toList = z.cps.toList.drop k := by
  have zl : z.cps.toList.length = z.length := rfl
  rw [cut_list, HT.sIx_none, HT.sIx_nat]
  by_cases h : k ≤ z.length
  · rw [Nat.min_eq_left h, List.take_of_length_le (by rw [List.length_drop]; omega)]
  · rw [Nat.min_eq_right (by omega), List.drop_eq_nil_of_le (show z.cps.toList.length ≤ k by omega), List.drop_eq_nil_of_le (show z.cps.toList.length ≤ z.length by omega)]
    simp
theorem len_list (z : Str) : z.length = z.cps.toList.length := rfl
theorem mul_mem {z : Str} {k : Int} {n : Nat} (h : n ∈ (Txt.mul z k).cps.toList) : n ∈ z.cps.toList := by
  unfold Txt.mul at h
  split at h
  · exact absurd h (by show n ∉ ([] : List Nat); simp)
  · split at h
    · exact h
    · have key : ∀ (m : Nat) (acc : Array Nat), n ∈ ((List.replicate m z.cps).foldl (· ++ ·) acc).toList → n ∈ acc.toList ∨ n ∈ z.cps.toList := by
        intro m
        induction m with
        | zero => intro acc h; exact .inl h
        | succ m ih =>
          intro acc h
          rw [List.replicate_succ, List.foldl_cons] at h
          rcases ih _ h with h | h
          · rw [Array.toList_append, List.mem_append] at h
            exact h
          · exact .inr h
      rcases key _ _ h with h | h
      · simp at h
      · exact h
theorem mul_len (z : Str) (k : Nat) : (Txt.mul z (k : Int)).length = z.length * k := by
  have := len_mul z (k : Int)
  rw [if_neg (by simp)] at this
  exact_mod_cast this
theorem mulOk_of {z : Str} {k : Nat} (h1 : z.length ≤ 1000) (h2 : k ≤ 1000) : PySem.MulOk z (k : Int) := by
  refine ⟨by simp; omega, fun h _ hh => ?_, fun _ _ => ?_⟩
  · have : (2 ^ 63 - 1 : Int) / (k : Int) ≥ 1000 := by
      have kp : (0 : Int) < k := by omega
      rw [ge_iff_le, Int.le_ediv_iff_mul_le kp]
      have : (k : Int) ≤ 1000 := by exact_mod_cast h2
      omega
    omega
  · unfold Builtin.Str.tooLong
    rw [decide_eq_false_iff_not, sizeLine_eq]
    have : z.length * ((k : Int)).toNat ≤ 1000 * 1000 := Nat.mul_le_mul h1 (by simpa using h2)
    omega
end Vl
end
section
set_option maxHeartbeats 4000000
namespace Vl
open PySem PySem.Spec PyProof.Rows L2
variable {cls : Nat → Addr}
section
variable {c : Cy cls} {ρ : Rho}
/-- C.f, a constant read off the class -/
theorem we_cval {e : Expr} {f : Str} {pos : Pos} {k : Nat} {mc : Value} {v : V} {u : Value} {y : D} {P : D → Prop} {ex : Xd → Prop} (rd : ClX.CRead c.X.K (cls k) mc) (cv : ClX.CVal c.X.K (cls k) mc f v u) (hq : ∀ R H, Dq c.W R H v y)
    (h : WE c e ρ (fun d => d = .cl k ∧ P y) ex) (hb : attributeBase e f c.X.env (eval e c.X.env) = eval e c.X.env := by rfl) : WE c (.Attribute e f pos) ρ P ex :=
  we_of (ClX.pe_cval (peU c e) hb) fun σ H R E S p x => tU.mk h S p x fun w H1 ⟨d, g, ok, q, e1, hp⟩ => by
    subst e1
    cases q
    exact ⟨_, mc, v, u, rfl, rd, cv, y, g, ok, hq _ _, hp⟩
end
end Vl
end
section
set_option maxHeartbeats 4000000
namespace Vl
open PySem PySem.Spec PyProof.Rows L2
variable {cls : Nat → Addr}
section
variable {c : Cy cls} {ρ : Rho}
/-- list + list -/
theorem we_addL {a b : Expr} {pos : Pos} {P : D → Prop} {ex : Xd → Prop} (h : WE c a ρ (fun x => WE c b ρ (fun y => ∃ xs ys, x = .lst xs ∧ y = .lst ys ∧ xs.length + ys.length ≤ 1000000 ∧ P (.lst (xs ++ ys))) ex) ex) : WE c (.BinOp a .Add b pos) ρ P ex :=
  we_bin (F := fun x y P => ∃ xs ys, x = .lst xs ∧ y = .lst ys ∧ xs.length + ys.length ≤ 1000000 ∧ P (.lst (xs ++ ys))) (pe_op op_cat (peU c a) (peU c b)) (fun R H vx vy x y P nd ok qx qy f Q k => by
    obtain ⟨xs, ys, rfl, rfl, hl, h⟩ := f
    cases qx with
    | lst r1 e1 q1 =>
    cases qy with
    | lst r2 e2 q2 =>
    exact ⟨_, _, _, _, rfl, rfl, e1, e2, by rw [q1.length, q2.length, sizeLine_eq]; omega, fun p hp => k _ _ (Fin.new ok hp (.lst (.inr hp) upd_same (DqL.up (c := c) hp (q1.append q2))) h)⟩) h
theorem DqL.rep {W : Wd cls} {R : Addr → Prop} {H : Hp} {vs : List V} {ds : List D} (q : DqL W R H vs ds) : ∀ n : Nat, DqL W R H (List.replicate n vs).flatten (List.replicate n ds).flatten
  | 0 => .nil
  | n + 1 => by
    rw [List.replicate_succ, List.replicate_succ, List.flatten_cons, List.flatten_cons]
    exact q.append (DqL.rep q n)
end
end Vl
end
section
set_option maxHeartbeats 4000000
namespace Vl
open PySem PySem.Spec PyProof.Rows L2
variable {cls : Nat → Addr}
/-! ### a text among texts -/
theorem inV_strs (a : Str) : ∀ ys : List Str, inV (.str a) (ys.map V.str) = decide (a ∈ ys)
  | [] => rfl
  | y :: ys => by
    have ih := inV_strs a ys
    unfold inV at ih ⊢
    rw [List.map_cons, List.any_cons, ih]
    have : eqV (.str y) (.str a) = decide (a = y) := by
      show (y == a) = decide (a = y)
      by_cases h : a = y
      · subst h; simp
      · rw [decide_eq_false h]
        exact beq_eq_false_iff_ne.mpr fun e => h e.symm
    rw [this]
    simp only [List.mem_cons]
    rw [Bool.decide_or]
theorem flat_strs (ys : List Str) : (ys.map V.str).all flatV = true := by
  rw [List.all_eq_true]
  intro x hx
  obtain ⟨y, _, rfl⟩ := List.mem_map.mp hx
  rfl
section
variable {c : Cy cls} {ρ : Rho}
abbrev FInL (neg : Bool) : D → D → (D → Prop) → Prop := fun x y P => ∃ (a : Str) (ys : List Str), x = .str a ∧ (y = .lst (ys.map D.str) ∨ y = .tup (ys.map D.str)) ∧ P (.bl (if neg then !decide (a ∈ ys) else decide (a ∈ ys)))
theorem opd_inL (neg : Bool) : OpD c (rIn c.X.K neg) (FInL neg) := fun R H vx vy x y P nd ok qx qy f Q k => by
  obtain ⟨a, ys, rfl, hy, h⟩ := f
  cases qx
  rcases hy with rfl | rfl
  · cases qy with
    | lst r e q =>
      have := q.strs
      subst this
      refine ⟨_, _, rfl, .inl (sq_l e), rfl, flat_strs ys, ?_⟩
      rw [inV_strs]
      exact k _ _ (Fin.here ok nd (.bl _) h)
  · cases qy with
    | tup r e q =>
      have := q.strs
      subst this
      refine ⟨_, _, rfl, .inr (sq_t e), rfl, flat_strs ys, ?_⟩
      rw [inV_strs]
      exact k _ _ (Fin.here ok nd (.bl _) h)
theorem wt_inL {a b : Expr} {pos : Pos} {P : Bool → Prop} {ex : Xd → Prop} (h : WE c a ρ (fun x => WE c b ρ (fun y => FInL false x y (BP P)) ex) ex) (hm : behindInMarks .In b = false := by rfl) : WT c (.Compare a [.In] [b] pos) ρ P ex := wt_bin (pt_cmpR op_in_seq (peU c a) (peU c b) hm) (opd_inL false) h
theorem we_in {a b : Expr} {pos : Pos} {Q : D → Prop} {ex : Xd → Prop} (h : WE c a ρ (fun x => WE c b ρ (fun y => FIn false x y Q) ex) ex) (hm : behindInMarks .In b = false := by rfl) : WE c (.Compare a [.In] [b] pos) ρ Q ex :=
  we_bin (pe_cmpR op_in_sign (peU c a) (peU c b) hm) opd_in h
end
end Vl
end
section
set_option maxHeartbeats 4000000
namespace Vl
open PySem PySem.Spec PyProof.Rows L2
variable {cls : Nat → Addr}
/-! ### dicts as data -/
section
variable {κ : Type} [DecidableEq κ]
def atK : List κ → List D → κ → Option D
  | k :: ks, d :: ds, j => if k = j then some d else atK ks ds j
  | _, _, _ => none
variable {W : Wd cls} {R : Addr → Prop} {H : Hp} {j : κ}
theorem atK_some {d : D} : ∀ {ks : List κ} {vs : List V} {ds : List D}, DqL W R H vs ds → atK ks ds j = some d → ∃ v, valV (ks.zip vs) j = some v ∧ Dq W R H v d
  | [], _, _, _, e => by simp [atK] at e
  | _ :: _, _, _, .nil, e => by simp [atK] at e
  | k :: ks, _, _, .cons (v := v) (vs := vs) q r, e => by
    by_cases h : k = j
    · rw [atK, if_pos h] at e
      cases e
      exact ⟨v, valV_pos (p := (k, v)) h, q⟩
    · rw [atK, if_neg h] at e
      obtain ⟨w, e1, e2⟩ := atK_some r e
      exact ⟨w, by rw [List.zip_cons_cons, valV_neg (p := (k, v)) h]; exact e1, e2⟩
theorem atK_none : ∀ {ks : List κ} {vs : List V} {ds : List D}, DqL W R H vs ds → atK ks ds j = none → valV (ks.zip vs) j = none
  | [], _, _, _, _ => by rw [List.zip_nil_left]; rfl
  | _ :: _, _, _, .nil, _ => by rw [List.zip_nil_right]; rfl
  | k :: ks, _, _, .cons (v := v) (vs := vs) q r, e => by
    by_cases h : k = j
    · rw [atK, if_pos h] at e
      cases e
    · rw [atK, if_neg h] at e
      rw [List.zip_cons_cons, valV_neg (p := (k, v)) h]
      exact atK_none r e
end
def kD : L2.Key → D
  | .inl i => .int i
  | .inr z => .str z
section
variable {W : Wd cls} {R : Addr → Prop} {H : Hp}
theorem kD_dq {v : V} {k : L2.Key} (q : Dq W R H v (kD k)) : v = kV k := by
  cases k with
  | inl i => cases q; rfl
  | inr z => cases q; rfl
theorem kDs_dq : ∀ {ks : List L2.Key} {vs : List V}, DqL W R H vs (ks.map kD) → vs = ks.map kV
  | [], _, q => by cases q; rfl
  | k :: ks, _, q => by
    cases q with
    | cons q r => rw [kD_dq q, kDs_dq r]; rfl
end
section
variable {c : Cy cls} {R : Addr → Prop} {H H' : Hp} {σ : L2.St} {ρ : Rho}
/-- d[k] -/
theorem we_dget {o e : Expr} {pos : Pos} {P : D → Prop} {ex : Xd → Prop} {n : Nat} (hr : Room n c.X.A) (h : WE c o ρ (fun x => WE c e ρ (fun y => ∃ ks ds k d, x = .dic ks ds ∧ y = kD k ∧ atK ks ds k = some d ∧ P d) ex) ex) (hs : NoSl e := by exact fun _ _ => rfl) : WE c (.Subscript o e pos) ρ P ex :=
  we_bin (r := fun x y H Q => ∃ a v, x = .ref a ∧ DGet H a y (some v) ∧ Q v H) (F := fun x y P => ∃ ks ds k d, x = .dic ks ds ∧ y = kD k ∧ atK ks ds k = some d ∧ P d) (pe_dget (by have := hr.un; omega) (peU c o) (peU c e) hs) (fun R H vx vy x y P nd ok qx qy f Q kk => by
    obtain ⟨ks, ds, k, d, rfl, rfl, e1, hp⟩ := f
    cases qx with
    | dic r eh l q =>
      rw [kD_dq qy]
      obtain ⟨v, e2, q2⟩ := atK_some q e1
      refine ⟨_, v, rfl, ?_, kk _ _ (Fin.here ok nd q2 hp)⟩
      have z := DGet.k (k := k) eh
      rw [e2] at z
      exact z) h
/-- d.get(k, x), k a tuple -/
theorem we_dgetT {o e f : Expr} {apos pos : Pos} {P : D → Prop} {ex : Xd → Prop} {n : Nat} (hr : Room n c.X.A) (h : WE c o ρ (fun x => ∃ ks ds, x = .dit ks ds ∧ WE c e ρ (fun y => ∃ qs : List L2.Key, y = .tup (qs.map kD) ∧ WE c f ρ (fun z => P ((atK ks ds qs).getD z)) ex) ex) ex)
    (m : M2 c.X o "get" apos e f pos := by exact ⟨rfl, rfl, rfl, rfl⟩) : WE c (.Call (.Attribute o "get" apos) [e, f] [] pos) ρ P ex :=
  we_of (pe_dget2 (by have := hr.un; omega) (peU c o) (peU c e) (peU c f) m) fun σ H R E S p x => tU.mk h S p x fun v H1 ⟨d, g1, ok1, q1, ks, ds, e1, w1⟩ => by
    subst e1
    cases q1 with
    | dit r eh l q =>
      have S1 := S.grow g1 ok1
      refine ⟨_, rfl, .inr ⟨_, .inl eh⟩, tU.mk w1 S1 p (x.grow g1 ok1) fun v2 H2 ⟨d2, g2, ok2, q2, qs, e2, w2⟩ => ?_⟩
      subst e2
      cases q2 with
      | tup r2 eh2 q2 =>
        have S2 := S1.grow g2 ok2
        refine tU.mk w2 S2 p ((x.grow g1 ok1).grow g2 ok2) fun v3 H3 ⟨d3, g3, ok3, q3, hp⟩ => ?_
        have ea := hH_of S2.ndr g3 _ _ (.inl r) (hH_of S1.ndr g2 _ _ r eh)
        have eb := hH_of S2.ndr g3 _ _ r2 eh2
        rw [kDs_dq q2] at eb
        cases ea1 : atK ks ds qs with
        | none =>
          rw [ea1] at hp
          refine ⟨none, ?_, ?_⟩
          · have z := DGet.t (k := qs) ea eb
            rw [atK_none q ea1] at z
            exact z
          · exact (((show Fin c (Nw (Nw R H) H1) H2 P v3 H3 from ⟨d3, g3, ok3, q3, hp⟩).back g2 ok2).back g1 ok1)
        | some d =>
          rw [ea1] at hp
          obtain ⟨w, e3, q4⟩ := atK_some q ea1
          refine ⟨some w, ?_, ?_⟩
          · have z := DGet.t (k := qs) ea eb
            rw [e3] at z
            exact z
          · exact (((show Fin c (Nw (Nw R H) H1) H2 P w H3 from ⟨d, g3, ok3, (q4.grow S1.ndr g2).grow S2.ndr g3, hp⟩).back g2 ok2).back g1 ok1)
/-- k in d, k a tuple -/
theorem wt_inT {a b : Expr} {pos : Pos} {P : Bool → Prop} {ex : Xd → Prop} {n : Nat} (hr : Room n c.X.A) (h : WE c a ρ (fun x => ∃ qs : List L2.Key, x = .tup (qs.map kD) ∧ WE c b ρ (fun y => ∃ ks ds, y = .dit ks ds ∧ P (atK ks ds qs).isSome) ex) ex) (hm : behindInMarks .In b = false := by rfl) : WT c (.Compare a [.In] [b] pos) ρ P ex :=
  wt_of (pt_cmp (pc_din (by have := hr.un; omega) (peU c a) (peU c b)) hm) fun σ H R E S p x => tU.mk h S p x fun v H1 ⟨d, g1, ok1, q1, qs, e1, w1⟩ => by
    subst e1
    cases q1 with
    | tup r eh q =>
      have S1 := S.grow g1 ok1
      refine tU.mk w1 S1 p (x.grow g1 ok1) fun v2 H2 ⟨d2, g2, ok2, q2, ks, ds, e2, hp⟩ => ?_
      subst e2
      cases q2 with
      | dit r2 eh2 l q2 =>
        have eb := hH_of S1.ndr g2 _ _ r eh
        rw [kDs_dq q] at eb
        have z := DGet.t (k := qs) eh2 eb
        refine ⟨_, _, rfl, z, _, rfl, g1.trans g2, ok2, ?_⟩
        cases ea1 : atK ks ds qs with
        | none => rw [ea1] at hp; rw [atK_none q2 ea1]; exact hp
        | some d =>
          rw [ea1] at hp
          obtain ⟨w, e3, _⟩ := atK_some q2 ea1
          rw [e3]
          exact hp
end
end Vl
end
section
set_option maxHeartbeats 4000000
namespace Vl
open PySem PySem.Spec PyProof.Rows L2
variable {cls : Nat → Addr}
/-! ### an own dict of tuples as a tree: what has been met -/
abbrev trues (ks : List (List L2.Key)) : D := .dit ks (ks.map fun _ => D.bl true)
theorem Mq.dit_inv {T F : Addr → Prop} {H : Hp} {v : V} {d : D} (q : Mq T H F v d) : ∀ {ks : List (List L2.Key)}, d = trues ks → ∃ a, v = .ref a ∧ F a ∧ H a = some (.dT (ks.map fun k => (k, V.bl true))) := by
  cases q with
  | dit fa e => intro ks z; cases z; exact ⟨_, rfl, fa, e⟩
  | _ => intro ks z; cases z
theorem valV_trues {ks : List (List L2.Key)} {q : List L2.Key} (h : q ∉ ks) : valV (ks.map fun k => (k, V.bl true)) q = none := by
  induction ks with
  | nil => rfl
  | cons k ks ih => rw [List.map_cons, valV_neg (p := (k, V.bl true)) (show ¬ k = q from fun z => h (by rw [z]; exact List.mem_cons_self))]; exact ih fun z => h (List.mem_cons_of_mem _ z)
section
variable {c : Cy cls} {R R' : Addr → Prop} {H H' H2 : Hp} {σ : L2.St} {ρ : Rho} {i : Nat} {F : Addr → Prop} {v : V} {d : D}
variable {nx : D → Rho → Prop} {p : Po} {rest : List Stmt}
/-- name = {} -/
theorem wx_beginT (i : Nat) {x : Str} {pos pos' pos2 : Pos} (hN : c.X.N.Nodup) (hi : c.X.N[i]? = some x) (li : i < ρ.length) (h : WX c i (trues []) rest (ρ.set i none) (fun _ _ => False) p) (hx : Loc c.X.env.scope x := by first | exact Or.inl rfl | exact Or.inr rfl)
    (hs : swapsWith (.Dict [] [] pos2) (some (.Name x pos')) pos.line c.X.env = pure false := by rfl) (hf : c.X.fn x = true ∨ c.X.env.scope.names.lookup x = some .local := by first | exact .inl rfl | exact .inr rfl) : WSs c (.Assign [.Name x pos'] (.Dict [] [] pos2) pos :: rest) ρ p :=
  ⟨fun pins s σ H R Ds E I S tk en ex => (pss_cons (ps_set hN hi hx pe_dnewT hs hf) (psX c i rest)).run pins s σ H Ds I fun a ha => by
      have g : Gr c.W H (upd H a (.dT [])) := Gr.of_same (same_upd ha)
      have n : ∀ b, b = a → H b = none ∧ upd H a (.dT []) b ≠ none := fun b e => by subst e; exact ⟨ha, by rw [upd_same]; exact fun z => nomatch z⟩
      obtain ⟨S1, T1⟩ := Tr.begin (F := fun b => b = a) (v := .ref a) (d := trues []) S g (ok_same S.ok (same_upd ha)) li (.dit (ks := []) rfl upd_same) n
      exact ⟨_, _, E, _, _, _, _, p, S1, T1, tk, en.from (kp_begin S.ndr g n), ex, fun _ _ _ _ _ _ _ _ _ _ z => z.elim, h⟩⟩
/-- for x, y in iter, the tree beside -/
theorem wx_for2 (j l : Nat) {x y : Str} {xp yp tp : Pos} {kk : Nat} {iter : Expr} {body : List Stmt} {pos : Pos} (hN : c.X.N.Nodup) (hj : c.X.N[j]? = some x) (hl : c.X.N[l]? = some y) (hc : c.X.calm = true) (h : WI c (.Tuple [.Name x xp, .Name y yp] kk tp) iter ρ (fun items => ∃ I : Nat → D → Rho → Prop, I 0 d ρ ∧
      (∀ k z d' ρ', items[k]? = some z → I k d' ρ' → ∃ a b, z = .tup [a, b] ∧ WX c i d' body ((ρ'.set j (some (.val a))).set l (some (.val b))) (I (k + 1)) { p with nx := fun _ => False, bk := fun _ => False, ct := fun _ => False }) ∧ (∀ d' ρ', I items.length d' ρ' → WX c i d' rest ρ' nx p)) (p.ex ρ)) (hji : j ≠ i := by decide) (hli : l ≠ i := by decide)
    (hx : Loc c.X.env.scope x := by first | exact Or.inl rfl | exact Or.inr rfl) (hf : c.X.fn x = true ∨ c.X.env.scope.names.lookup x = some .local := by first | exact .inl rfl | exact .inr rfl) (hx2 : Loc c.X.env.scope y := by first | exact Or.inl rfl | exact Or.inr rfl) (hf2 : c.X.fn y = true ∨ c.X.env.scope.names.lookup y = some .local := by first | exact .inl rfl | exact .inr rfl)
    (hpass : PassesOwn (model c.X.prog c.X.w) c.X.A c.X.env c.X.xe := by exact passes_of rfl) (hs : ∀ x, foldedSetIterable iter c.X.env x = pure x := by intro _; rfl) : WX c i d (.For (.Tuple [.Name x xp, .Name y yp] kk tp) iter body [] pos :: rest) ρ nx p :=
  ⟨fun pins s σ H R Ds E F v I S T tk en ex kn => (pss_cons (ps_for hpass hc (piU c (.Tuple [.Name x xp, .Name y yp] kk tp) iter) (pg_tup (n := 2) hc (pgs_cons (pg_name hN hj hx hf) (pgs_cons (pg_name hN hl hx2 hf2) pgs_nil))) (psX c i body) hs) (psX c i rest)).run pins s σ H Ds I
    ⟨ρ, R, E σ, _, p.ex ρ, S, tk.at σ, ex.at S, h, fun J H1 ⟨items, g, ok, ⟨G, Y, w, hG, hY⟩, I, i0, turn, done⟩ => by
      have S1 := S.grow g ok
      have T1 := T.grow S g ok
      have K1 := Kp.grow (W := c.W) S.ndr g
      refine for_it w (fun k σ' H' => ∃ R' ρ' F' v' d', Sl c R' H' σ' ρ' ∧ Tr c R' H' σ' ρ' i F' v' d' ∧ Kp (Nw R H) H1 R' H' ∧ I k d' ρ') ⟨_, ρ, F, v, d, S1, T1, Kp.refl, i0⟩ (fun k σ' H' _ ⟨R', ρ', F', v', d', S', T', k', _⟩ => hG R' H' k') (fun k u σ' Hc H' hi ⟨R', ρ', F', v', d', S', T', k', hI⟩ y => ?_) (fun σ' H' ⟨R', ρ', F', v', d', S', T', k', hI⟩ => ?_)
      · obtain ⟨z, hd, sm, q⟩ := hY k Hc u H' y R' S'.ndr S'.ok k'
        obtain ⟨a, b, rfl, wx⟩ := turn k z d' ρ' hd hI
        have S2 := S'.same sm
        have T2 := T'.grow S' (Gr.of_same sm) (ok_same S'.ok sm)
        have k2 : Kp (Nw R H) H1 (Nw R' Hc) H' := k'.trans (Kp.grow S'.ndr (Gr.of_same sm))
        have en2 := en.from (K1.trans k2)
        cases q with
        | tup r e q =>
          cases q with
          | cons q1 q =>
            cases q with
            | cons q2 q =>
              cases q
              exact ⟨_, _, rfl, sq_t e, rfl, _, _, rfl, _, _, rfl, rfl, _, _, E, F', v', d', I (k + 1), { p with nx := fun _ => False, bk := fun _ => False, ct := fun _ => False }, (S2.setVal q1).setVal q2, (T2.setVal hji).setVal hli, tk, ⟨fun _ _ _ _ _ _ z => z.elim, en2.rt, fun _ _ _ _ _ _ z => z.elim, fun _ _ _ _ _ _ z => z.elim⟩, ex, fun d3 R3 H3 σ3 ρ3 F3 v3 S3 T3 k3 hI3 => ⟨R3, ρ3, F3, v3, d3, S3, T3, k2.trans k3, hI3⟩, wx⟩
      · exact ⟨ρ', R', E, F', v', d', nx, p, S', T', tk, en.from (K1.trans k'), ex, fun d3 R3 H3 σ3 ρ3 F3 v3 S3 T3 k3 hn => kn d3 R3 H3 σ3 ρ3 F3 v3 S3 T3 ((K1.trans k').trans k3) hn, done d' ρ' hI⟩⟩⟩
/-- tree[b] = True, b new -/
theorem wx_putT {n : Nat} {x : Str} {b e : Expr} {npos p2 pos : Pos} {ks : List (List L2.Key)} (hr : Room n c.X.A) (hN : c.X.N[i]? = some x)
    (h : WE c e ρ (fun y => y = .bl true ∧ WE c b ρ (fun z => ∃ qs : List L2.Key, z = .tup (qs.map kD) ∧ qs ∉ ks ∧ ks.length < 1000000 ∧ WX c i (trues (ks ++ [qs])) rest ρ nx p) (p.ex ρ)) (p.ex ρ))
    (hv : Vis c.X.env.scope x := by first | exact Or.inl rfl | exact Or.inr (Or.inl rfl) | exact Or.inr (Or.inr rfl)) (hd : (x == ("__debug__" : Str)) = false := by decide) (hcd : (x == ("__classdict__" : Str)) = false := by decide)
    (hs : swapsWith e (some (.Subscript (.Name x npos) b p2)) pos.line c.X.env = pure false := by rfl) : WX c i (trues ks) (.Assign [.Subscript (.Name x npos) b p2] e pos :: rest) ρ nx p :=
  ⟨fun pins s σ H R Ds E F v I S T tk en ex kn => (pss_cons (ps_dput (by have := hr.un; omega) (pe_var hN hv hd hcd) (peU c b) (peU c e) hs) (psX c i rest)).run pins s σ H Ds I
    (tU.mk h S (tk.at σ) (ex.at S) fun u H1 ⟨y, g1, ok1, q1, ey, w1⟩ => by
      subst ey
      cases q1
      have S1 := S.grow g1 ok1
      have T1 := T.grow S g1 ok1
      refine ⟨v, T1.at_, tU.mk w1 S1 (tk.at σ) ((ex.at S).grow g1 ok1) fun u1 H2 ⟨y1, g2, ok2, q2, qs, ey1, hk, hl, w2⟩ => ?_⟩
      subst ey1
      have S2 := S1.grow g2 ok2
      have T2 := T1.grow S1 g2 ok2
      obtain ⟨a, ev, fa, ea⟩ := T2.q.dit_inv rfl
      subst ev
      cases q2 with
      | tup r eb q =>
        rw [kDs_dq q] at eb
        have pt := DPut.t (v := V.bl true) ea eb (by rw [List.length_map, sizeLine_eq]; omega)
        rw [putK_new _ (valV_trues hk)] at pt
        have qf : Mq (Nw (Nw R H) H1) (upd H2 a (.dT ((ks ++ [qs]).map fun k => (k, V.bl true)))) F (.ref a) (trues (ks ++ [qs])) := .dit fa upd_same
        have kk : Kp R H (Nw (Nw R H) H1) (upd H2 a (.dT ((ks ++ [qs]).map fun k => (k, V.bl true)))) := ((Kp.grow S.ndr g1).trans (Kp.grow S1.ndr g2)).trans (Kp.mut (T2.nR a fa))
        refine ⟨a, upd H2 a (.dT ((ks ++ [qs]).map fun k => (k, V.bl true))), rfl, by rw [List.map_append]; exact pt, ?_⟩
        exact ⟨ρ, _, E, F, _, _, nx, p, S2.mutTree T2 fa, T2.put qf, tk, en.from kk, ex, fun d' R' H' σ' ρ' F' v' S' T' k hn => kn d' R' H' σ' ρ' F' v' S' T' (kk.trans k) hn, w2⟩)⟩
end
end Vl
end
section
set_option maxHeartbeats 4000000
namespace Vl
open PySem PySem.Spec PyProof.Rows L2
variable {cls : Nat → Addr}
/-! ### a part of a tuple -/
section
variable {c : Cy cls} {ρ : Rho}
theorem cut_all {ds : List D} {lo hi : Option Int} (h : HT.sIx ds.length 0 lo = 0 ∧ HT.sIx ds.length ds.length hi = ds.length) : cutD ds lo hi = ds := by
  unfold cutD
  rw [h.1, h.2]
  simp
theorem we_sliceT {e : Expr} {lo hi : Option Expr} {p2 pos : Pos} {P : D → Prop} {ex : Xd → Prop} (h : WE c e ρ (fun x => ∃ ds, x = .tup ds ∧ WO c ρ ex lo (fun l => WO c ρ ex hi (fun u => P (.tup (cutD ds l u))))) ex) : WE c (.Subscript e (.Slice lo hi none p2) pos) ρ P ex :=
  we_slice (F := fun d l u P => ∃ ds, d = .tup ds ∧ P (.tup (cutD ds l u))) sl_tupA (fun R H v d l u P nd ok q f Q k => by
    obtain ⟨ds, rfl, h⟩ := f
    cases q with
    | tup r e q =>
      refine ⟨_, _, rfl, sq_t e, fun z => ?_, fun _ p hp => k _ _ (Fin.new ok hp (.tup (.inr hp) upd_same (DqL.up (c := c) hp (q.cutV l u))) h)⟩
      rw [q.length] at z
      rw [cut_all z] at h
      exact k _ _ (Fin.here ok nd (.tup r e q) h)) (WE.mono h fun d ⟨ds, e, w⟩ => by
    subst e
    cases lo <;> cases hi <;> first
      | exact ⟨_, rfl, w⟩
      | exact WE.mono w fun d ⟨i, e, w⟩ => ⟨i, e, _, rfl, w⟩
      | exact WE.mono w fun d ⟨i, e, w⟩ => ⟨i, e, WE.mono w fun d ⟨i, e, w⟩ => ⟨i, e, _, rfl, w⟩⟩)
end
/-! ### dicts made by a comprehension, keys of a kind -/
structure DKind (P : Program) (w : World) (κ : Type) [DecidableEq κ] where
  ob : List (κ × V) → HO
  is : Hp → κ → V → Prop
  new : ∀ (H : Hp) (h : Heap), sysModules < h.objs.size → ObjOk P w H (h.push { cls := .type "dict", data := .dict #[] }) h.objs.size (ob [])
  set : ∀ {X : Cx} {pins : List (Addr × Obj)} {σ : L2.St} {H : Hp} {s : Shared} {E : Value → Shared → Prop} {a : Addr} {kvs : List (κ × V)} {k : κ} {y v : V} {u r : Value} {Q : Unit → Shared → Prop}, X.prog = P → X.w = w → X.A.units + 1 < cLine → Inv X pins σ H s → H a = some (ob kvs) → kvs.length < sizeLine → is H k y → RelV y u → RelV v r →
    (∀ s', Inv X pins σ (upd H a (ob (putK kvs k v))) s' → Q () s') → wpAny (model X.prog X.w) X.A (dictSet a u r) Q E s
def kStr (P : Program) (w : World) : DKind P w L2.Key where
  ob := .dK
  is := fun _ k y => y = kV k
  new := fun H h hb => dk_empty h hb
  set := fun hP hw _ I e hl ky ry rv h => by
    subst ky
    exact d_dictSet I e hl ry rv h
def kTup (P : Program) (w : World) : DKind P w (List L2.Key) where
  ob := .dT
  is := fun H k y => ∃ b, y = .ref b ∧ H b = some (.tup (k.map kV))
  new := fun H h hb => dt_empty h hb
  set := fun {X pins σ H s E a kvs k y v u r Q} hP hw hu I e hl ky ry rv h => by
    obtain ⟨b, rfl, eb⟩ := ky
    cases (show u = Value.ref b from ry)
    obtain ⟨z, hd, xs, rel, dd⟩ := dt_of I.hok e
    have l2 : xs.length ≤ sizeLine := Nat.le_trans (Nat.le_of_eq (Paired.length rel).symm) z
    refine wpAny_dictSet_heap (hsz := l2) (show X.A.units < cLine by omega) (key_of I.hok eb) dd fun h' dd' hs => h _ ?_
    obtain ⟨q, es, ep, g1, g2, g3, g4, _, g5⟩ := dd'
    refine d_write I (by rw [e]; exact True.intro) hs ⟨q, g1⟩ ⟨Nat.le_trans (length_putK kvs k v) hl, hd, _, (rel.put k eb rv).keeps fun c ys ec => ?_, q, es, ep, g1, g2, g3, g4, g5⟩
    rw [upd_ne (ne_of ec e fun z => nomatch z)]
    exact ec
section
variable {P : Program} {w : World} {κ : Type} [DecidableEq κ]
def tDcK (K : DKind P w κ) (wi : TI) (g : TG) (tk tv : TE) (vs : List Nat) : TE := fun σ H Q => wi σ H fun J H1 => ∀ a, H1 a = none → ∃ I : Nat → Nat → Hp → Prop, (∃ m, I 0 m (upd H1 a (K.ob []))) ∧ ∀ i m H2, I i m H2 →
  (J.stop i H2 ∧ Q (.ref a) H2) ∨ (J.go i H2 ∧ ∃ G : Hp → Prop, (∀ H3, G H3 → ∃ m', m' < m ∧ I (i + 1) m' H3) ∧ ∀ x H3, J.yld i H2 x H3 → g x (wipe σ vs) H3 fun σ2 H4 => wipe σ2 vs = wipe σ vs ∧ tk σ2 H4 fun y H5 => tv σ2 H5 fun z H6 => ∃ kvs k, K.is H6 k y ∧ H6 a = some (K.ob kvs) ∧ kvs.length < sizeLine ∧ G (upd H6 a (K.ob (putK kvs k z))))
end
end Vl
end
section
set_option maxHeartbeats 4000000
namespace Vl
open PySem PySem.Spec PyProof.Rows L2
/-! ### the run of a dict comprehension, whatever its keys -/
section
variable {κ : Type} [DecidableEq κ] {X : Cx}
theorem pe_dcK (D : DKind X.prog X.w κ) {kx vx tg iter : Expr} {scope : Scope} {own : List (Str × Nat)} {pos : Pos} {wi : TI} {g : TG} {tk tv : TE} (hu : X.A.units + 1 < cLine) (hc : X.calm = true) (hN : X.N.Nodup) (hi : PI X tg iter wi) (ok : BlkOk X.N X.env.scope scope own)
    (hg : ∀ (s : Shared) (H : Hp) (C : Addr) (l : List (Str × Addr)) (fp : List Addr), PG (X.blk s H scope (compEnvC scope l C X.env) fp) tg g) (hk : ∀ (s : Shared) (H : Hp) (C : Addr) (l : List (Str × Addr)) (fp : List Addr), PE (X.blk s H scope (compEnvC scope l C X.env) fp) kx tk)
    (hv : ∀ (s : Shared) (H : Hp) (C : Addr) (l : List (Str × Addr)) (fp : List Addr), PE (X.blk s H scope (compEnvC scope l C X.env) fp) vx tv) (hs : ∀ x, foldedSetIterable iter X.env x = pure x) : PE X (.DictComp kx vx [⟨tg, iter, [], 0⟩] scope pos) (tDcK D wi g tk tv (own.map (·.2))) := by
  refine ⟨fun pins s σ H Q I h => ?_⟩
  rw [arm_eval_DictComp]
  refine wpAny_comprehension_free rfl hs (closure_ok fun y hy e => (ok.free y hy e).elim (fun z => I.ok.has _ (.inl z)) fun z => I.ok.has _ (.inr z)) ok.kind (fun y hy e => by rw [ok.uniq y hy, e]) (thn (hi.run pins s σ H _ I h) fun _ sa ha => thn ha fun _ sb hb => ?_)
  obtain ⟨it, fp, tn, J, Hb, rfl, Ib, T, stb, fb, q⟩ := hb
  refine wpAny_newObj_type (newEnv_comp ?_)
  obtain ⟨Inn, ⟨m0, w0⟩, turn⟩ := q sb.heap.objs.size (Ib.hok.fresh (Nat.le_refl _))
  generalize ea : sb.heap.objs.size = a at w0 turn
  -- the dict is new
  generalize es : ({ sb with heap := sb.heap.push { cls := .type "dict", data := .dict #[] } } : Shared) = sc
  have hp : sc.heap = sb.heap.push { cls := .type "dict", data := .dict #[] } := by rw [← es]
  have Ic : Inv X pins σ (upd Hb a (D.ob [])) sc := by
    subst es ea
    exact Ib.laid (t' := sb.toks) (fun b o e => Heap.get?_push_of_some _ e) (Nat.le_refl _) (D.new _ _ Ib.big)
  have below : ∀ b ∈ fp, b < a := fun b hb => let ⟨_, e, _⟩ := T.obj _ _ stb b hb; ea ▸ Heap.lt_size e
  have fc : ∀ b ∈ fp, FpOk X pins (upd Hb a (D.ob [])) b ∧ b < sc.heap.objs.size := fun b hb => ⟨⟨by rw [upd_ne (Nat.ne_of_lt (below b hb))]; exact (fb b hb).1, (fb b hb).2⟩, by rw [hp, Heap.size_push, ea]; exact Nat.lt_succ_of_lt (below b hb)⟩
  have stc : tn 0 sc.heap := T.keep _ _ _ stb fun b _ o e => by rw [hp]; exact Heap.get?_push_of_some _ e
  have Id := block_start Ic ok hN fc
  have gT := hg sc (upd Hb a (D.ob [])) sc.heap.objs.size (cellsFrom (sc.heap.objs.size + 1) scope.names (cloFrom X.env.cells scope.names [])) fp
  have gK := hk sc (upd Hb a (D.ob [])) sc.heap.objs.size (cellsFrom (sc.heap.objs.size + 1) scope.names (cloFrom X.env.cells scope.names [])) fp
  have gV := hv sc (upd Hb a (D.ob [])) sc.heap.objs.size (cellsFrom (sc.heap.objs.size + 1) scope.names (cloFrom X.env.cells scope.names [])) fp
  have nz : ∀ b ∈ fp, upd Hb a (D.ob []) b = none := fun b hb => (fc b hb).1.1
  show codeAny _ _ (.compStart (.DictComp kx vx [⟨tg, iter, [], 0⟩] scope pos) 0 (.ref it) (.ref a) (compEnvC scope (cellsFrom (sc.heap.objs.size + 1) scope.names (cloFrom X.env.cells scope.names [])) sc.heap.objs.size X.env)) _ { sc with heap := pushCells (sc.heap.push { cls := .type "dict", data := .dict #[] }) scope.names }
  generalize ece : compEnvC scope (cellsFrom (sc.heap.objs.size + 1) scope.names (cloFrom X.env.cells scope.names [])) sc.heap.objs.size X.env = ce at Id gT gK gV ⊢
  have lc : ce.locals = sc.heap.objs.size := by rw [← ece]; rfl
  generalize eH : upd Hb a (D.ob []) = Hc at Ic Id gT gK gV w0 nz fc
  generalize ed : ({ sc with heap := pushCells (sc.heap.push { cls := .type "dict", data := .dict #[] }) scope.names } : Shared) = sd at Id ⊢
  have std : tn 0 sd.heap := T.keep _ _ _ stc fun b _ o e => by rw [← ed]; exact pushCells_keeps _ _ _ _ (Heap.get?_push_of_some _ e)
  -- what stays of the iterator's objects
  have foot : ∀ {σ' : L2.St} {H' : Hp} {s' : Shared}, L2.Inv (X.blk sc Hc scope ce fp) [] σ' H' s' → (∀ b ∈ fp, H' b = none) → ∀ b ∈ fp, FpOk (X.blk sc Hc scope ce fp) [] H' b := fun I' n b hb =>
    ⟨n b hb, (I'.ok.exf b hb).1, I'.ok.exfs b hb, .inl hb, fun x c e => (I'.ok.exf b hb).2 x c e, fun p hp => absurd (show p ∈ ([] : List (Addr × Obj)) ++ [] from hp) (by simp)⟩
  have loop : codeAny (model X.prog X.w) X.A (.compLoop (.DictComp kx vx [⟨tg, iter, [], 0⟩] scope pos) 0 (.ref it) (.ref a) ce) (compPost (model X.prog X.w) X.A X.xe none (EP X pins σ Q) (.ref a) sc.heap.objs.size) sd := by
    refine compLoop_anyD (fun n s' => ∃ i H', L2.Inv (X.blk sc Hc scope ce fp) [] (wipe σ (own.map (·.2))) H' s' ∧ tn i s'.heap ∧ (∀ b ∈ fp, H' b = none) ∧ Inn i n H') (fun n s5 ⟨i, H5, I5, st5, n5, w5⟩ => ?_) m0 ⟨0, Hc, Id, std, nz, w0⟩
    rcases turn i n H5 w5 with ⟨stop, qq⟩ | ⟨go, G, hG, step⟩
    · -- no item more
      refine thnF (T.done (X.blk sc Hc scope ce fp) rfl rfl rfl hc i [] s5 _ H5 (fun _ _ => False) I5 (foot I5 n5) st5 stop) fun r s6 ⟨hr, I6⟩ => ?_
      subst hr
      have I7 : L2.Inv X pins σ H5 s6 := Ic.call' (ch := fp) I6.os I6.base I6.hok I6.bare fun b hb => let z := (fc b hb).1.2; ⟨z.2.2.1, z.1, z.2.2.2.1, z.2.2.2.2⟩
      have free : H5 ce.locals = none := I6.free
      obtain ⟨m, ns, _⟩ := I6.loc
      replace ns : s6.heap.Ns ce.locals m := ns
      rw [lc] at ns free
      obtain ⟨f0, f1, _, f3, f4, f5⟩ := Ic.fpOk (Nat.le_refl _) free
      exact ⟨m, ns, fun _ sb' => ⟨.ref a, H5, I7.turned (t' := s6.toks) (fun b o hb e => (sb'.2 b hb).trans e) f0 f1 f3 f4 f5, rfl, qq⟩⟩
    · -- the next item
      refine thnF (T.item (X.blk sc Hc scope ce fp) rfl rfl rfl hc i [] s5 _ H5 (fun _ _ => False) I5 (foot I5 n5) st5 go) fun r s6 ⟨u, hr, h6⟩ => ?_
      subst hr
      refine thnF h6 fun _ s7 ⟨x, H7, I7, r7, y7, st7, n7⟩ => ?_
      refine thnF (gT.run _ s7 _ H7 x u _ (I7.pinned (foot I7 n7) (T.obj _ _ st7)) r7 (step x H7 y7)) fun _ s8 ⟨σ8, H8, I8, hw, q8⟩ => ?_
      refine wpAny_pure ?_
      refine thnF (gK.run _ s8 σ8 H8 _ I8 q8) fun _ s9 ⟨yk, H9, I9, r9, q9⟩ => ?_
      refine thnF (gV.run _ s9 σ8 H9 _ I9 q9) fun _ s10 ⟨yv, H10, I10, r10, kvs, k, ik, hD, hz, nx⟩ => ?_
      refine D.set (X := X.blk sc Hc scope ce fp) rfl rfl hu I10 hD hz ik r9 r10 fun s11 I11 => ?_
      obtain ⟨m', hm, w'⟩ := hG _ nx
      have held : ∀ b ∈ fp, ∀ o, s7.heap.get? b = some o → s11.heap.get? b = some o ∧ upd H10 a (D.ob (putK kvs k yv)) b = none := fun b hb o e =>
        have z := I11.pin (b, o) (List.mem_append_right _ (List.mem_append_right _ (mem_pinsAt hb e)))
        ⟨z.1, z.2.1⟩
      refine ⟨m', hm, i + 1, _, (I11.unpinned (pins := [])).weak (by rw [← hw, wipe_length]) (fun j v e => ?_), T.keep _ _ _ st7 fun b hb o e => (held b hb o e).1, fun b hb => ?_, w'⟩
      · rw [← hw] at e
        exact (wipe_some e).1
      · obtain ⟨o, e, _⟩ := T.obj _ _ st7 b hb
        exact (held b hb o e).2
  exact codeAny_compStart_dict loop (T.self X.A 0 _ _ _ std loop)
end
end Vl
end
section
set_option maxHeartbeats 4000000
namespace Vl
open PySem PySem.Spec PyProof.Rows L2
variable {cls : Nat → Addr}
section
variable {κ : Type} [DecidableEq κ]
theorem valV_no {ks : List κ} {k : κ} (h : k ∉ ks) : ∀ vs : List V, valV (ks.zip vs) k = none := by
  induction ks with
  | nil => intro vs; rw [List.zip_nil_left]; rfl
  | cons a ks ih =>
    intro vs
    cases vs with
    | nil => rw [List.zip_nil_right]; rfl
    | cons v vs =>
      rw [List.zip_cons_cons, valV_neg (p := (a, v)) (show ¬ a = k from fun z => h (by rw [z]; exact List.mem_cons_self))]
      exact ih (fun z => h (List.mem_cons_of_mem _ z)) vs
theorem take_get {α : Type} {l : List α} {i : Nat} {a : α} (h : l[i]? = some a) : l.take (i + 1) = l.take i ++ [a] := by
  rw [List.take_add_one, h]
  rfl
theorem nodup_take {α : Type} {l : List α} {i : Nat} {a : α} (nd : l.Nodup) (h : l[i]? = some a) : a ∉ l.take i := by
  intro m
  obtain ⟨j, hj, e⟩ := List.mem_take_iff_getElem.mp m
  obtain ⟨hi, e2⟩ := List.getElem?_eq_some_iff.mp h
  have := (List.getElem_inj nd).mp (e.trans e2.symm)
  omega
variable {c : Cy cls} {R : Addr → Prop} {H H' : Hp} {σ : L2.St} {ρ : Rho}
/-- how such a dict stands as a datum -/
structure DRd (c : Cy cls) (D : DKind c.X.prog c.X.w κ) (kd : κ → Vl.D) (fd : List κ → List Vl.D → Vl.D) : Prop where
  key : ∀ {R H v k}, Dq c.W R H v (kd k) → D.is H k v
  fin : ∀ {R H a ks vs ds}, R a → H a = some (D.ob (ks.zip vs)) → ks.length = vs.length → DqL c.W R H vs ds → Dq c.W R H (.ref a) (fd ks ds)
theorem dc_read (D : DKind c.X.prog c.X.w κ) {kd : κ → Vl.D} {fd : List κ → List Vl.D → Vl.D} (rd : DRd c D kd fd) {tg iter kx vx : Expr} {scope : Scope} {vs : List Nat} {g : TG} {G : Vl.D → Rho → Rho → Prop} {E : XK} {ex : Xd → Prop} {P : Vl.D → Prop} (hg : TgOk c g vs G) (S : Sl c R H σ ρ) (p : Pas c.X σ E) (x : ExOk c R H E ex)
    (h : WI c tg iter ρ (fun items => items.length ≤ 1000000 ∧ ∃ (ks : List κ) (ds : List Vl.D), ks.length = items.length ∧ ds.length = items.length ∧ ks.Nodup ∧
      (∀ (i : Nat) d k y, items[i]? = some d → ks[i]? = some k → ds[i]? = some y → ∃ ρ', G d (wipeR ρ vs) ρ' ∧ WEB c scope kx ρ' (fun z => z = kd k) ∧ WEB c scope vx ρ' (fun z => z = y)) ∧ P (fd ks ds)) ex) :
    tDcK D (tUI c tg iter) g (tUB c scope kx) (tUB c scope vx) vs σ H (Fin c R H P) := by
  refine ⟨ρ, R, E, _, ex, S, p, x, h, fun J H1 ⟨items, g1, ok1, ⟨Gj, Y, w, hG, hY⟩, hlen, ks, ds, lk, ld, nd, turn, done⟩ q hq => ?_⟩
  have S1 := S.grow g1 ok1
  have s0 : Same H1 (upd H1 q (D.ob [])) := same_upd hq
  have nqd : ¬ c.W.mv q := fun z => c.W.some H1 ok1 _ (c.W.mvb _ z) hq
  have nb : ∀ a, c.W.base a → a ≠ q := fun a b z => c.W.some H1 ok1 _ b (z ▸ hq)
  refine ⟨fun i m H' => m = items.length - i ∧ i ≤ items.length ∧ ∃ us, H' q = some (D.ob ((ks.take i).zip us)) ∧ us.length = i ∧ DqL c.W (fun a => Nw (Nw R H) H1 a ∧ a ≠ q) H' us (ds.take i) ∧ Gr c.W H1 H' ∧ c.W.ok H',
    ⟨_, rfl, Nat.zero_le _, [], by rw [upd_same]; rfl, rfl, .nil, Gr.of_same s0, ok_same ok1 s0⟩, ?_⟩
  rintro i m Hc ⟨rfl, hi, us, h1, h2, h3, h4, h5⟩
  have gj : Gj Hc := hG (Nw (Nw R H) H1) Hc (Kp.grow S1.ndr h4)
  by_cases hlt : i < items.length
  · refine .inr ⟨w.goes i Hc hlt gj, fun H' => i + 1 ≤ items.length ∧ ∃ us, H' q = some (D.ob ((ks.take (i + 1)).zip us)) ∧ us.length = i + 1 ∧ DqL c.W (fun a => Nw (Nw R H) H1 a ∧ a ≠ q) H' us (ds.take (i + 1)) ∧ Gr c.W H1 H' ∧ c.W.ok H',
      fun H' z => ⟨items.length - (i + 1), by omega, rfl, z⟩, fun v H' y => ?_⟩
    have y := w.yields i Hc v H' hlt gj y
    have nq := S1.apart hq h4 h5
    have kq : Kp (Nw R H) H1 (fun a => Nw (Nw R H) H1 a ∧ a ≠ q) Hc := fun a o r e => ⟨⟨.inl r, fun z => by rw [z, hq] at e; cases e⟩, hH_of S1.ndr h4 a o r e⟩
    obtain ⟨d, hd, sm, qd⟩ := hY i Hc v H' y _ nq.ndr h5 kq
    have ok' := ok_same h5 sm
    have g' : Gr c.W H1 H' := h4.trans (Gr.of_same sm)
    have S2 := S1.apart hq g' ok'
    have qd2 : Dq c.W (fun a => Nw (Nw R H) H1 a ∧ a ≠ q) H' v d := qd.wide fun a z => z.elim id fun z => ⟨.inr (none_back h5 h4 z), fun e => by rw [e, h1] at z; cases z⟩
    have ek := List.getElem?_eq_getElem (show i < ks.length by omega)
    have ed := List.getElem?_eq_getElem (show i < ds.length by omega)
    obtain ⟨ρ', hρ, hk, hv⟩ := turn i d _ _ hd ek ed
    refine hg _ H' σ ρ v d ρ' (S2.wipe vs) qd2 hρ _ fun σ2 S3 hw => ⟨hw, ?_⟩
    have h1' := sm q _ h1
    intro s0 B0 C cl fp
    refine tU.mk (hk s0 B0 C cl fp) S3.blk pas0 exOk0 fun kv H2 ⟨dk, g2, ok2, q2, ek2⟩ => ?_
    subst ek2
    have S4 := S3.grow g2 ok2
    intro s0 B0 C cl fp
    refine tU.mk (hv s0 B0 C cl fp) S4.blk pas0 exOk0 fun vv H3 ⟨dv, g3, ok3, q3, ev⟩ => ?_
    subst ev
    have e2 := g2 q _ nqd h1'
    have e3 := g3 q _ nqd e2
    refine ⟨_, ks[i], rd.key (q2.grow S4.ndr g3), e3, ?_, by omega, us ++ [vv], ?_, by rw [List.length_append, h2]; rfl, ?_, fun a o n e => ?_, c.W.keep H3 _ ok3 fun a b => upd_ne (nb a b)⟩
    · rw [List.length_zip, List.length_take, sizeLine_eq]
      omega
    · rw [upd_same, putK_new _ (valV_no (nodup_take nd ek) us), take_get ek, List.zip_append (by rw [List.length_take, h2]; omega)]
      rfl
    · rw [take_get ed]
      have key : ∀ {a : Addr} {Hx : Hp}, Gr c.W H1 Hx → c.W.ok Hx → Hx q ≠ none → Hx a = none → Nw (Nw R H) H1 a ∧ a ≠ q := fun {a Hx} gx okx hne z => ⟨.inr (none_back okx gx z), fun e => hne (e ▸ z)⟩
      have up : ∀ a o, (Nw (Nw R H) H1 a ∧ a ≠ q) → H3 a = some o → upd H3 q (D.ob (putK ((ks.take i).zip us) ks[i] vv)) a = some o := fun a o r e => by rw [upd_ne r.2]; exact e
      refine DqL.append (h3.mono (fun _ r => r) fun a o r e => up a o r ?_) (.cons ((q3.wide fun a z => ?_).mono (fun _ r => r) up) .nil)
      · have n : ¬ c.W.mv a := fun z => nq.ndr a z r
        exact g3 a o n (g2 a o n (sm a o e))
      · rcases z with (z | z) | z
        · exact z
        · exact key g' ok' (by rw [h1']; intro z; cases z) z
        · exact key (g'.trans g2) ok2 (by rw [e2]; intro z; cases z) z
    · rw [upd_ne (show a ≠ q from fun z => by rw [z, hq] at e; cases e)]
      exact g3 a o n (g2 a o n (g' a o n e))
  · have e : i = items.length := by omega
    subst e
    refine .inl ⟨w.stops Hc gj, fd ks ds, g1.trans h4, h5, ?_, done⟩
    have hq0 : H q = none := none_back ok1 g1 hq
    rw [← lk, List.take_length] at h1
    rw [← ld, List.take_length] at h3
    exact rd.fin (.inr hq0) h1 (by omega) (h3.wide fun a z => nw_nw ok1 g1 a z.1)
theorem drd_str : DRd c (kStr c.X.prog c.X.w) kD Vl.D.dic := ⟨fun q => kD_dq q, fun r e l q => .dic r e l q⟩
theorem drd_tup : DRd c (kTup c.X.prog c.X.w) (fun ks => Vl.D.tup (ks.map kD)) Vl.D.dit := ⟨fun q => by
  cases q with
  | tup r e q =>
    rw [kDs_dq q] at e
    exact ⟨_, rfl, e⟩, fun r e l q => .dit r e l q⟩
/-- {kx: vx for x in iter} -/
theorem we_dcK (D : DKind c.X.prog c.X.w κ) {kd : κ → Vl.D} {fd : List κ → List Vl.D → Vl.D} (rd : DRd c D kd fd) (j : Nat) {x : Str} {xp : Pos} {iter kx vx : Expr} {scope : Scope} {pos : Pos} {P : Vl.D → Prop} {ex : Xd → Prop} {n : Nat} (hr : Room n c.X.A) (hN : c.X.N.Nodup)
    (h : WI c (.Name x xp) iter ρ (fun items => items.length ≤ 1000000 ∧ ∃ (ks : List κ) (ds : List Vl.D), ks.length = items.length ∧ ds.length = items.length ∧ ks.Nodup ∧
      (∀ (i : Nat) d k y, items[i]? = some d → ks[i]? = some k → ds[i]? = some y → ∃ ρ', G1 j d (wipeR ρ [j]) ρ' ∧ WEB c scope kx ρ' (fun z => z = kd k) ∧ WEB c scope vx ρ' (fun z => z = y)) ∧ P (fd ks ds)) ex) (hc : c.X.calm = true := by rfl)
    (hpg : ∀ (s : Shared) (H : Hp) (C : Addr) (cl : List (Str × Addr)) (fp : List Addr), PG (c.X.blk s H scope (compEnvC scope cl C c.X.env) fp) (.Name x xp) (gName j) := by exact fun _ _ _ _ _ => pg_name (by assumption) rfl (Or.inl rfl))
    (ok : BlkOk c.X.N c.X.env.scope scope [(x, j)] := by exact blkOk_by (by kernel_rfl)) (hs : ∀ x, foldedSetIterable iter c.X.env x = pure x := by intro _; rfl) : WE c (.DictComp kx vx [⟨.Name x xp, iter, [], 0⟩] scope pos) ρ P ex :=
  we_of (pe_dcK D (own := [(x, j)]) (by have := hr.un; omega) hc hN (piU c (.Name x xp) iter) ok hpg (fun s H C l fp => peUB scope kx s H C l fp) (fun s H C l fp => peUB scope vx s H C l fp) hs) fun σ H R E S p xx => dc_read D rd tg_name S p xx h
end
end Vl
end
section
set_option maxHeartbeats 4000000
namespace Vl
open PySem PySem.Spec PyProof.Rows L2
/-! ### iter(a text) as a value -/
/-! ### walking an object whose __iter__ is «return iter(self.f)», f a text -/
end Vl
end
section
set_option maxHeartbeats 4000000
namespace Vl
open PySem PySem.Spec PyProof.Rows L2
variable {cls : Nat → Addr}
section
variable {c : Cy cls} {R : Addr → Prop} {H H' : Hp} {σ : L2.St} {ρ : Rho}
/-! ### x in o, o of an own class -/
theorem wt_eqO {a b : Expr} {pos : Pos} {k j : Nat} {fs : FS} {P : Bool → Prop} {ex : Xd → Prop} (d : ObM c k "__eq__" j fs) (hr : Room j c.X.A)
    (h : WE c a ρ (fun x => WE c b ρ (fun y => ∃ gs t, x = .obj k gs ∧ tagV cls y = some t ∧ (∀ k fs, y = .obj k fs → InsF c.X.K (cls k)) ∧ PySem.W.notFirst c.X.K (cls k) t = true ∧ fs [x, y] (fun d => ∃ b, d = .bl b ∧ BP P (.bl b)) (fun _ => False)) ex) ex) : WT c (.Compare a [.Eq] [b] pos) ρ P ex := wt_bin (pt_cmpR (op_eqO d hr) (peU c a) (peU c b) (nomark _)) opd_eqO h
/-! ### o + o, both of an own class -/
/-! ### a class made with its defaults -/
/-! ### an empty tuple of the module -/
structure KEmp (K : PySem.W.Frag) (a : Addr) : Prop where
  sq : ∀ H, SqT K H a []
  ty : ∀ H, TyX K H (.ref a) (.type "tuple")
theorem wi_emp {tg l : Expr} {P : List D → Prop} {ex : Xd → Prop} (h : WE c l ρ (fun x => ∃ a, x = .adr a ∧ KEmp c.X.K a ∧ P []) ex) : WI c tg l ρ P ex :=
  wi_of (pi_tup (peU c l)) fun σ H R E S p x => tU.mk h S p x fun v H1 ⟨d, g, ok, q, a, e, ke, hp⟩ => by
    subst e
    cases q
    exact ⟨_, rfl, ⟨_, ke.sq _⟩, [], g, ok, ⟨_, _, walk_tup (xs := []), fun R' H' k => ke.sq _, fun i Hc x H' y R' nd ok k => absurd y.2 (by simp)⟩, hp⟩
theorem lsd_isiE : LsD c (rIsiT c.X.K) (fun ds P => ∃ a ks us b, ds = [.adr a, .tup ks] ∧ KEmp c.X.K a ∧ ks.mapM (clV cls) = some us ∧ PySem.W.kitAny c.X.K (.type "tuple") us = some b ∧ P (.bl b)) := fun R H vs ds P nd ok q f Q kk => by
  obtain ⟨a, ks, us, b, rfl, ke, h2, h4, h⟩ := f
  cases q with
  | cons q1 q =>
    cases q with
    | cons q2 q =>
      cases q
      cases q1
      cases q2 with
      | tup r e q2 => exact ⟨_, _, _, _, us, b, rfl, e, clVs_ok q2 h2, ke.ty _, h4, kk _ _ (Fin.here ok nd (.bl _) h)⟩
theorem we_isiE {a : Expr} {ks : List Expr} {kk : Nat} {tp pp pos : Pos} {P : D → Prop} {ex : Xd → Prop} (nb : NB c.X.mg) (h : WE c a ρ (fun d => WE c (.Tuple ks kk tp) ρ (fun kd => ∃ b cs us k, d = .adr b ∧ kd = .tup cs ∧ KEmp c.X.K b ∧ cs.mapM (clV cls) = some us ∧ PySem.W.kitAny c.X.K (.type "tuple") us = some k ∧ P (.bl k)) ex) ex)
    (hp : PE c.X (.Call (.Name "isinstance" pp) [a, .Tuple ks kk tp] [] pos) (tCB (rIsiT c.X.K) (tAs c [a, .Tuple ks kk tp])) := by exact pe_callB call_isiT (by rfl) ((by assumption : NB _) _ bl_isinstance) bt_isinstance (pa_cons (peU _ _) (pa_cons (peU _ _) pa_nil))) : WE c (.Call (.Name "isinstance" pp) [a, .Tuple ks kk tp] [] pos) ρ P ex :=
  we_blt hp lsd_isiE (WE.mono h fun d w => WE.mono w fun kd ⟨b, cs, us, k, e1, e2, ke, h2, h4, hP⟩ => ⟨b, cs, us, k, by rw [e1, e2], ke, h2, h4, hP⟩)
end
end Vl
end
section
set_option maxHeartbeats 4000000
namespace Vl
open PySem PySem.Spec PyProof.Rows L2
end Vl
end
section
set_option maxHeartbeats 4000000
namespace Vl
open PySem PySem.Spec PyProof.Rows L2 HT
variable {cls : Nat → Addr}
/-! ### tuple[::-1] -/
section
variable {c : Cy cls} {ρ : Rho}
theorem DqL.reverse {W : Wd cls} {R : Addr → Prop} {H : Hp} : ∀ {vs : List V} {ds : List D}, DqL W R H vs ds → DqL W R H vs.reverse ds.reverse
  | _, _, .nil => .nil
  | _, _, .cons q r => by
    rw [List.reverse_cons, List.reverse_cons]
    exact (DqL.reverse r).append (.cons q .nil)
end
end Vl
end
section
set_option maxHeartbeats 4000000
namespace Vl
open PySem PySem.Spec PyProof.Rows L2 L2H HotX
/-! ### defs that are called where an exception is handled -/
end Vl
end
section
set_option maxHeartbeats 4000000
namespace Vl
open PySem PySem.Spec PyProof.Rows L2
variable {cls : Nat → Addr}
/-! ### two trees at once -/
def LstAt (H : Hp) (a : Addr) : Prop := ∃ ws, H a = some (.lst ws)
/-- no list in it; objects and dicts may be -/
inductive Lq : D → Prop
  | non : Lq .non
  | bl (b : Bool) : Lq (.bl b)
  | int (i : Int) : Lq (.int i)
  | str (x : Str) : Lq (.str x)
  | tup {ds : List D} : (∀ d ∈ ds, Lq d) → Lq (.tup ds)
  | obj {k : Nat} {fs : List (Str × D)} : (∀ f ∈ fs, Lq f.2) → Lq (.obj k fs)
  | dic {ks : List L2.Key} {ds : List D} : (∀ d ∈ ds, Lq d) → Lq (.dic ks ds)
  | dit {ks : List (List L2.Key)} {ds : List D} : (∀ d ∈ ds, Lq d) → Lq (.dit ks ds)
theorem Lq.dq {W : Wd cls} {R : Addr → Prop} {H : Hp} {d : D} (h : Lq d) : ∀ {v : V}, Dq W R H v d → Dq W (fun a => R a ∧ ¬ LstAt H a) H v d := by
  induction h with
  | non => intro v q; cases q; exact .non
  | bl b => intro v q; cases q; exact .bl b
  | int i => intro v q; cases q; exact .int i
  | str x => intro v q; cases q; exact .str x
  | tup _ ih =>
    intro v q
    cases q with
    | tup r e q => exact .tup ⟨r, fun ⟨vs, z⟩ => by rw [e] at z; cases z⟩ e (lo_l (fun d m v q => ih d m q) q)
  | obj _ ih =>
    intro v q
    cases q with
    | obj r e q => exact .obj ⟨r, fun ⟨vs, z⟩ => by rw [e] at z; cases z⟩ e (lo_f (fun d m v q => ih d m q) q)
  | dic _ ih =>
    intro v q
    cases q with
    | dic r e l q => exact .dic ⟨r, fun ⟨vs, z⟩ => by rw [e] at z; cases z⟩ e l (lo_l (fun d m v q => ih d m q) q)
  | dit _ ih =>
    intro v q
    cases q with
    | dit r e l q => exact .dit ⟨r, fun ⟨vs, z⟩ => by rw [e] at z; cases z⟩ e l (lo_l (fun d m v q => ih d m q) q)
section
variable {c : Cy cls} {R R' : Addr → Prop} {H H' H2 : Hp} {σ : L2.St} {ρ : Rho} {i j : Nat} {F G : Addr → Prop} {v u : V} {d e : D}
variable {nx : D → Rho → Prop} {n2 : Rho → Prop} {p : Po} {rest : List Stmt}
/-- the second one, where the first is a datum -/
theorem Tr.pub (U : Tr c R H σ ρ j G u e) (hij : i ≠ j) (dj : ∀ a, F a → ¬ G a) : Tr c (fun a => R a ∨ F a) H σ (ρ.set i (some (.val d))) j G u e where
  at_ := U.at_
  no := by rw [List.getElem?_set_ne hij]; exact U.no
  q := U.q.mono3 (fun a o t e => ⟨.inl t, e⟩) (fun _ z => z) fun _ _ _ e => e
  nR := fun a z y => y.elim (U.nR a z) fun f => dj a f z
  n0 := U.n0
  al := U.al
  sp := fun k ds b h1 h2 => by
    by_cases hk : i = k
    · subst hk
      have z := get_set_self h1
      cases z
    · rw [List.getElem?_set_ne hk] at h1
      exact U.sp k ds b h1 h2
  so := fun k a kk fs h1 => by
    by_cases hk : i = k
    · subst hk
      have z := get_set_self h1
      cases z
    · rw [List.getElem?_set_ne hk] at h1
      exact U.so k a kk fs h1
  sd := fun k q b h1 h2 => U.sd k q b (slot_set (by simp) h1).2 h2
end
end Vl
end
section
set_option maxHeartbeats 4000000
namespace Vl
open PySem PySem.Spec PyProof.Rows L2
variable {cls : Nat → Addr}
section
variable {c : Cy cls} {ρ : Rho}
/-! ### max, min of two; != of plain data -/
theorem lsd_max2 : LsD c (fun xs H Q => ∃ i j, xs = [.int i, .int j] ∧ Q (.int (if j > i then j else i)) H) (fun ds P => ∃ i j, ds = [.int i, .int j] ∧ P (.int (if j > i then j else i))) := fun R H vs ds P nd ok q f Q k => by
  obtain ⟨i, j, rfl, h⟩ := f
  cases q with
  | cons q r =>
    cases r with
    | cons q2 r =>
      cases r
      cases q
      cases q2
      exact ⟨i, j, rfl, k _ _ (Fin.here ok nd (.int _) h)⟩
theorem lsd_min2 : LsD c (fun xs H Q => ∃ i j, xs = [.int i, .int j] ∧ Q (.int (if j < i then j else i)) H) (fun ds P => ∃ i j, ds = [.int i, .int j] ∧ P (.int (if j < i then j else i))) := fun R H vs ds P nd ok q f Q k => by
  obtain ⟨i, j, rfl, h⟩ := f
  cases q with
  | cons q r =>
    cases r with
    | cons q2 r =>
      cases r
      cases q
      cases q2
      exact ⟨i, j, rfl, k _ _ (Fin.here ok nd (.int _) h)⟩
theorem we_max2 {a b : Expr} {pp pos : Pos} {P : D → Prop} {ex : Xd → Prop} (nb : NB c.X.mg) (h : WE c a ρ (fun x => WE c b ρ (fun y => ∃ i j, x = .int i ∧ y = .int j ∧ P (.int (if j > i then j else i))) ex) ex)
    (hp : PE c.X (.Call (.Name "max" pp) [a, b] [] pos) (tCB (fun xs H Q => ∃ i j, xs = [.int i, .int j] ∧ Q (.int (if j > i then j else i)) H) (tAs c [a, b])) := by exact pe_callB (call_max2 rfl) (by rfl) ((by assumption : NB _) _ bl_max) bt_max (pa_cons (peU _ _) (pa_cons (peU _ _) pa_nil))) :
    WE c (.Call (.Name "max" pp) [a, b] [] pos) ρ P ex := we_blt hp lsd_max2 (WE.mono h fun x w => WE.mono w fun y ⟨i, j, h1, h2, h3⟩ => ⟨i, j, by rw [h1, h2], h3⟩)
theorem we_min2 {a b : Expr} {pp pos : Pos} {P : D → Prop} {ex : Xd → Prop} (nb : NB c.X.mg) (h : WE c a ρ (fun x => WE c b ρ (fun y => ∃ i j, x = .int i ∧ y = .int j ∧ P (.int (if j < i then j else i))) ex) ex)
    (hp : PE c.X (.Call (.Name "min" pp) [a, b] [] pos) (tCB (fun xs H Q => ∃ i j, xs = [.int i, .int j] ∧ Q (.int (if j < i then j else i)) H) (tAs c [a, b])) := by exact pe_callB (call_min2 rfl) (by rfl) ((by assumption : NB _) _ bl_min) bt_min (pa_cons (peU _ _) (pa_cons (peU _ _) pa_nil))) :
    WE c (.Call (.Name "min" pp) [a, b] [] pos) ρ P ex := we_blt hp lsd_min2 (WE.mono h fun x w => WE.mono w fun y ⟨i, j, h1, h2, h3⟩ => ⟨i, j, by rw [h1, h2], h3⟩)
theorem opd_neD : OpD c (rNeD c.X.K) (fun x y P => eqOk x ∧ eqOk y ∧ P (.bl (!eqB x y))) := fun R H vx vy x y P nd ok qx qy f Q k => by
  obtain ⟨⟨⟨n, h1⟩, s1⟩, ⟨⟨m, h2⟩, s2⟩, h⟩ := f
  exact ⟨_, _, dp_of h1 qx, dp_of h2 qy, s1, s2, k _ _ (Fin.here ok nd (.bl _) h)⟩
theorem wt_neD {a b : Expr} {pos : Pos} {P : Bool → Prop} {ex : Xd → Prop} (hr : Room 0 c.X.A) (h : WE c a ρ (fun x => WE c b ρ (fun y => eqOk x ∧ eqOk y ∧ P (!eqB x y)) ex) ex) : WT c (.Compare a [.NotEq] [b] pos) ρ P ex :=
  wt_bin (pt_cmpR (op_neD (by have := hr.un; omega)) (peU c a) (peU c b) (nomark _)) opd_neD (WE.mono h fun x w => WE.mono w fun y ⟨h1, h2, h3⟩ => ⟨h1, h2, _, rfl, h3⟩)
theorem eqB_refl_str (z : Str) : eqB (.str z) (.str z) = true := by
  unfold eqB
  rw [pyOf, PyData.eqv]
  simp
end
end Vl
end
section
set_option maxHeartbeats 4000000
namespace Vl
open PySem PySem.Spec PyProof.Rows L2
variable {cls : Nat → Addr}
section
variable {P : Program} {w : World} {K : PySem.W.Frag} {mg : Str → Option Value} {base : Heap}
/-- an __init__ that has defaults -/
theorem init_okD {x qual : Str} {st : Stmt} {f : Addr} {fd : FuncData} {N ps : List Str} {k j : Nat} {fi : FI} {dvs : List V} {kws : List (Str × V)} (F : FunD K x qual (defArgs st) (defBody st) (defScope st) dvs kws f fd) (S : FnScope N ("self" :: ps) (defScope st)) (len : ∀ ds rt ex, fi ds rt ex → ds.length = ps.length)
    (body : ∀ (cdv : Value) (A : Around) (outer : List Env) (s : Shared) (H : Hp) (E : XK) (W : Wd cls) (R : Addr → Prop) (Hb : Hp) (a : Addr) (ds : List D) (rt : List (Str × D) → Prop) (ex : Xd → Prop), Room j (A.deeper (envOfC qual (defScope st) s.heap.objs.size f cdv)) → fi ds rt ex →
      WSs (⟨cxOf (L2N.CX P w) P w K mg base N qual (defScope st) f cdv A outer s H E, W, R, Hb⟩ : Cy cls) (defBody st) (rhoI N a k ds) { nx := fun ρ => ∃ gs, ρ[0]? = some (some (.ob a k gs)) ∧ rt gs, rt := fun _ _ => False, ex := fun _ => ex }) :
    FnOk P w K mg base (L2N.CX P w) (j + 1) f fd ("self" :: ps) (spInit cls k fi) := by
  refine F.ok S (fun vs H Q E h => ?_) (fun cdv A outer s H vs Q E hr h => ?_)
  · obtain ⟨W, R, Hb, a, dx, ws, ds, rt, ex, _, _, _, _, _, rfl, _, q, h, _⟩ := h
    rw [List.length_cons, List.length_cons, q.length, len _ _ _ h]
  · obtain ⟨W, R, Hb, a, dx, ws, ds, rt, ex, nd, ok, ha, hd, ne, rfl, hH, q, h, k1, k2⟩ := h
    refine ⟨_, pssU (⟨cxOf (L2N.CX P w) P w K mg base N qual (defScope st) f cdv A outer s H E, W, R, Hb⟩ : Cy cls) _, rhoI N a k ds, Al R Hb, fun _ => E, { nx := fun ρ => ∃ gs, ρ[0]? = some (some (.ob a k gs)) ∧ rt gs, rt := fun _ _ => False, ex := fun _ => ex },
      Sl.startI nd ok ha hd ne hH q, L2N.takes_of rfl rfl rfl rfl, ⟨fun R' H' σ ρ S _ h => ?_, fun R' H' σ ρ v d S q h => h.elim, fun _ _ _ _ _ _ z => z.elim, fun _ _ _ _ _ _ z => z.elim⟩, fun R' H' σ ρ x kk d S a h => ?_, body cdv A outer s H E W R Hb a ds rt ex hr h⟩
    · obtain ⟨gs, e, hrt⟩ := h
      obtain ⟨dx', fs, h1, h2, h3, h4, h5⟩ := S.ob 0 a k gs e
      exact k1 dx' fs gs H' S.gr S.ok h4 (h5.wide S.sub) hrt
    · exact k2 x kk d H' S.gr S.ok (a.wide S.sub) h
end
end Vl
end
section
set_option maxHeartbeats 4000000
namespace Vl
open PySem PySem.Spec PyProof.Rows L2 L2H HotX
/-! ### a comprehension over range(..), all(..) of a list, where an exception is handled -/
/-! ### .. read with data -/
end Vl
end
section
set_option maxHeartbeats 4000000
namespace Vl
open PySem PySem.Spec PyProof.Rows L2
variable {cls : Nat → Addr}
section
variable {c : Cy cls} {R : Addr → Prop} {H H' : Hp} {σ : L2.St} {ρ : Rho}
/-- the truth of an own list -/
theorem wt_olist {i : Nat} {x : Str} {npos : Pos} {ds : List D} {P : Bool → Prop} {ex : Xd → Prop} (hN : c.X.N[i]? = some x) (hρ : ρ[i]? = some (some (.lst ds))) (h : P (!ds.isEmpty))
    (hv : Vis c.X.env.scope x := by first | exact Or.inl rfl | exact Or.inr (Or.inl rfl) | exact Or.inr (Or.inr rfl)) (hd : (x == ("__debug__" : Str)) = false := by decide) (hcd : (x == ("__classdict__" : Str)) = false := by decide)
    (he : ∀ whole, isTrue (.Name x npos) c.X.env whole = (do let v ← whole; standAt (Expr.Name x npos).pos; holding [v] (truthy v)) := by exact fun _ => rfl) : WT c (.Name x npos) ρ P ex :=
  wt_of (pt_truth (pe_var hN hv hd hcd) he) fun σ H R E S p y => by
    obtain ⟨a, vs, h1, h2, h3, h4, h5⟩ := S.lst i ds hρ
    exact ⟨.ref a, h1, !ds.isEmpty, .inl ⟨_, sq_l h4, by rw [dql_empty h5]⟩, Gr.refl, S.ok, h⟩
end
end Vl
end
section
set_option maxHeartbeats 4000000
namespace Vl
open PySem PySem.Spec PyProof.Rows L2
variable {cls : Nat → Addr}
section
variable {c : Cy cls} {R : Addr → Prop} {H H' : Hp} {σ : L2.St} {ρ : Rho}
abbrev G3 (j k l : Nat) : D → Rho → Rho → Prop := fun d ρ ρ' => ∃ x y z, d = .tup [x, y, z] ∧ ρ' = ((ρ.set j (some (.val x))).set k (some (.val y))).set l (some (.val z))
end
end Vl
end
section
set_option maxHeartbeats 4000000
namespace Vl
open PySem PySem.Spec PyProof.Rows L2
end Vl
end
section
set_option maxHeartbeats 4000000
namespace Vl
open PySem PySem.Spec PyProof.Rows L2
/-! ### own dicts: made, written, become data -/
end Vl
end
section
set_option maxHeartbeats 4000000
namespace Vl
open PySem PySem.Spec PyProof.Rows L2
variable {cls : Nat → Addr}
/-! ### zip(text, tuple, tuple) at a name, walked by a comprehension that is returned -/
/-- one object, as it is -/
def pinO (a : Addr) (o : Obj) : HO := .ext fun h => h.get? a = some o
section
variable {X : Cx} {pins : List (Addr × Obj)} {σ : L2.St} {H H' : Hp} {s : Shared} {h' : Heap}
theorem inv_many {t' : Nat} (I : Inv X pins σ H s) (k : ∀ b u, s.heap.get? b = some u → h'.get? b = some u) (hs : ∀ b u, H b = some u → H' b = some u) (hn : ∀ b, b < s.heap.objs.size → H b = none → H' b = none) (new : ∀ b u, H' b = some u → H b = some u ∨ ∃ o, u = pinO b o ∧ h'.get? b = some o) : Inv X pins σ H' { s with heap := h', toks := t' } := by
  refine I.un ⟨fun b o e _ _ _ => k b o e, fun b o e _ _ _ => ⟨o.slots, k b o e⟩, fun b o e n _ => hn b (Heap.lt_size e) n, fun b o e _ => ⟨o, k b o e⟩, fun b xs e => hs _ _ e, fun b o x e => hs _ _ e, fun b ps e => ⟨#[], by rw [hs _ _ e]; simp⟩⟩ fun b u e => ?_
  rcases new b u e with h | ⟨o, rfl, h⟩
  · exact (I.hok b u h).stay (fun c v _ q => k c v q) (fun c q => hs _ _ q) fun c xs q => hs _ _ q
  · exact ⟨h, ⟨o, h⟩, fun h1 h2 q kk => kk _ q⟩
theorem inv_less (I : Inv X pins σ H' s) (hs : ∀ b u, H b = some u → H' b = some u) (new : ∀ b u, H' b = some u → H b = some u ∨ ∃ o, u = pinO b o) : Inv X pins σ H s := by
  have other : ∀ b u, H' b = some u → (∀ o, u ≠ pinO b o) → H b = some u := fun b u e n => (new b u e).elim id fun ⟨o, z⟩ => absurd z (n o)
  have hok : HOk X.prog X.w H s.heap := fun b u e => (I.hok b u (hs b u e)).stay (fun _ _ _ z => z) (fun c z => other c _ z fun _ w => (nomatch w)) fun c xs z => other c _ z fun _ w => (nomatch w)
  have non : ∀ b, H' b = none → H b = none := fun b e => by
    cases q : H b with
    | none => rfl
    | some u => rw [hs b u q] at e; cases e
  have u : Un X.fs [] H' H s.heap s.heap := ⟨fun _ _ e _ _ _ => e, fun _ o e _ _ _ => ⟨o.slots, e⟩, fun b _ _ z _ => non b z, fun _ o e _ => ⟨o, e⟩, fun b xs z => other b _ z fun _ w => (nomatch w),
    fun b o x z => other b _ z fun _ w => (nomatch w), fun b ps z => ⟨#[], by rw [other b _ z fun _ w => (nomatch w)]; simp⟩⟩
  exact I.un (t' := s.toks) u hok
end
theorem zne {a b : Nat} (h : ¬ a = b) : ¬ (show Addr from a) = (show Addr from b) := h
section
variable {c : Cy cls} {R : Addr → Prop} {H H' : Hp} {σ : L2.St} {ρ : Rho}
theorem lc_body {elt : Expr} {test : Option Expr} {scope : Scope} {vs : List Nat} {g : TG} {G : D → Rho → Rho → Prop} {P : List D → Prop} {Q : VK} {J : It} {H1 : Hp} {items : List D} {Acc : Nat → List D → Prop} (hg : TgOk c g vs G) (S : Sl c R H σ ρ)
    (g1 : Gr c.W H H1) (ok1 : c.W.ok H1) (it : IterD c (Nw R H) H1 J items) (hlen : items.length ≤ 1000000) (a0 : Acc 0 []) (turn : Turns c scope ρ vs G elt test items Acc) (done : ∀ acc, Acc items.length acc → P acc)
    (k : ∀ q H', H q = none → Gr c.W H H' → c.W.ok H' → ∀ ws acc, H' q = some (.lst ws) → DqL c.W (fun a => Nw R H a ∧ a ≠ q) H' ws acc → P acc → Q (.ref q) H') :
    ∀ D, H1 D = none → ∃ W : Nat → Nat → Hp → Prop, (∃ m, W 0 m (upd H1 D (.lst []))) ∧ ∀ i m H, W i m H →
  (J.stop i H ∧ Q (.ref D) H) ∨ (J.go i H ∧ ∃ Nx : Hp → Prop, (∀ H', Nx H' → ∃ m', m' < m ∧ W (i + 1) m' H') ∧ ∀ x H', J.yld i H x H' → g x (wipe σ vs) H' fun σ2 H2 => wipe σ2 vs = wipe σ vs ∧ ttOf c scope test σ2 H2 fun b H3 =>
    if b = true then tUB c scope elt σ2 H3 fun y H4 => ∃ acc, H4 D = some (.lst acc) ∧ acc.length < sizeLine ∧ Nx (upd H4 D (.lst (acc ++ [y]))) else Nx H3) := by
  intro q hq
  obtain ⟨Gj, Y, w, hG, hY⟩ := it
  have S1 := S.grow g1 ok1
  have s0 : Same H1 (upd H1 q (.lst [])) := same_upd hq
  have hq0 : H q = none := none_back ok1 g1 hq
  refine lc_it w (fun i H' => ∃ ws acc, H' q = some (.lst ws) ∧ DqL c.W (fun a => Nw (Nw R H) H1 a ∧ a ≠ q) H' ws acc ∧ Acc i acc ∧ acc.length ≤ i ∧ Gr c.W H1 H' ∧ c.W.ok H') ⟨[], [], upd_same, .nil, a0, Nat.le_refl _, Gr.of_same s0, ok_same ok1 s0⟩
    (fun i H' _ ⟨ws, acc, h1, h2, h3, h4, h5, h6⟩ => hG (Nw (Nw R H) H1) H' (Kp.grow S1.ndr h5)) (fun i v Hc H' hi ⟨ws, acc, h1, h2, h3, h4, h5, h6⟩ y => ?_) (fun H' ⟨ws, acc, h1, h2, h3, h4, h5, h6⟩ => ?_)
  · -- a turn
    have nq := S1.apart hq h5 h6
    have kq : Kp (Nw R H) H1 (fun a => Nw (Nw R H) H1 a ∧ a ≠ q) Hc := fun a o r e => ⟨⟨.inl r, fun z => by rw [z, hq] at e; cases e⟩, hH_of S1.ndr h5 a o r e⟩
    obtain ⟨d, hd, sm, qd⟩ := hY i Hc v H' y _ nq.ndr h6 kq
    have ok' := ok_same h6 sm
    have g' : Gr c.W H1 H' := h5.trans (Gr.of_same sm)
    have S2 := S1.apart hq g' ok'
    -- the new item's datum, apart from q
    have qd2 : Dq c.W (fun a => Nw (Nw R H) H1 a ∧ a ≠ q) H' v d := qd.wide fun a z => z.elim id fun z => ⟨.inr (none_back h6 h5 z), fun e => by rw [e, h1] at z; cases z⟩
    obtain ⟨ρ', hρ, ht⟩ := turn i d acc hd h3
    refine hg _ H' σ ρ v d ρ' (S2.wipe vs) qd2 hρ _ fun σ2 S3 hw => ⟨hw, ?_⟩
    have h1' := sm q _ h1
    have h2' : DqL c.W (fun a => Nw (Nw R H) H1 a ∧ a ≠ q) H' ws acc := h2.mono (fun _ r => r) fun a o _ e => sm a o e
    -- behind an element
    have elt_ : ∀ H3, Gr c.W H' H3 → c.W.ok H3 → Sl c (Nw (fun a => Nw (Nw R H) H1 a ∧ a ≠ q) H') H3 σ2 ρ' → WEB c scope elt ρ' (fun y => Acc (i + 1) (acc ++ [y])) →
        tUB c scope elt σ2 H3 fun y H4 => ∃ acc', H4 q = some (.lst acc') ∧ acc'.length < sizeLine ∧ ∃ ws acc, (upd H4 q (.lst (acc' ++ [y]))) q = some (.lst ws) ∧ DqL c.W (fun a => Nw (Nw R H) H1 a ∧ a ≠ q) (upd H4 q (.lst (acc' ++ [y]))) ws acc ∧ Acc (i + 1) acc ∧ acc.length ≤ i + 1 ∧ Gr c.W H1 (upd H4 q (.lst (acc' ++ [y]))) ∧ c.W.ok (upd H4 q (.lst (acc' ++ [y]))) := fun H3 g3 ok3 S4 we s0 H0 C cl fp => by
      have nqd : ¬ c.W.mv q := fun z => c.W.some H1 ok1 _ (c.W.mvb _ z) hq
      refine tU.mk (we s0 H0 C cl fp) S4.blk pas0 exOk0 fun y H4 ⟨dy, g4, ok4, q4, hA⟩ => ?_
      have e4 := g4 q _ nqd (g3 q _ nqd h1')
      have hn4 : ∀ a o, (Nw (Nw R H) H1 a ∧ a ≠ q) → H4 a = some o → upd H4 q (.lst (ws ++ [y])) a = some o := fun a o r e => by rw [upd_ne r.2]; exact e
      have nb : ∀ a, c.W.base a → a ≠ q := fun a b z => c.W.some H1 ok1 _ b (z ▸ hq)
      refine ⟨ws, e4, by rw [h2.length]; rw [sizeLine_eq]; omega, ws ++ [y], acc ++ [dy], upd_same, (DqL.append ((h2'.mono (fun _ r => r) fun a o r e => ?_).mono (fun _ r => r) hn4) (.cons ((q4.wide fun a z => ?_).mono (fun _ r => r) hn4) .nil)), hA, by rw [List.length_append, List.length_singleton]; omega, fun a o n e => ?_, c.W.keep H4 _ ok4 fun a b => upd_ne (nb a b)⟩
      · have nd : ¬ c.W.mv a := fun z => S2.ndr a z r
        exact g4 a o nd (g3 a o nd e)
      · -- the region of the element
        have key : ∀ {a : Addr} {Hx : Hp}, Gr c.W H1 Hx → c.W.ok Hx → Hx q ≠ none → Hx a = none → Nw (Nw R H) H1 a ∧ a ≠ q := fun {a Hx} gx okx hne z => ⟨.inr (none_back okx gx z), fun e => hne (e ▸ z)⟩
        rcases z with (z | z) | z
        · exact z
        · exact key g' ok' (by rw [h1']; intro z; cases z) z
        · exact key (g'.trans g3) ok3 (by rw [g3 q _ nqd h1']; intro z; cases z) z
      · rw [upd_ne (show a ≠ q from fun z => by rw [z, hq] at e; cases e)]
        exact g4 a o n (g3 a o n (g' a o n e))
    cases test with
    | none =>
      have S4 : Sl c (Nw (fun a => Nw (Nw R H) H1 a ∧ a ≠ q) H') H' σ2 ρ' := S3.grow Gr.refl S3.ok
      have z := elt_ H' Gr.refl ok' S4 ht
      unfold ttOf tYes
      exact iteT z
    | some t =>
      show tUTB c scope t σ2 H' _
      intro s0 H0 C cl fp
      refine tUT.mk (ht s0 H0 C cl fp) S3.blk pas0 exOk0 fun b H3 ⟨g3, ok3, hb1, hb2⟩ => ?_
      cases b with
      | true =>
        refine iteT ?_
        exact elt_ H3 g3 ok3 (S3.grow g3 ok3) (hb1 rfl)
      | false =>
        refine iteF ?_
        have nqd : ¬ c.W.mv q := fun z => c.W.some H1 ok1 _ (c.W.mvb _ z) hq
        exact ⟨ws, acc, g3 q _ nqd h1', h2'.mono (fun _ r => r) fun a o r e => g3 a o (fun z => S2.ndr a z r) e, hb2 rfl, Nat.le_succ_of_le h4, g'.trans g3, ok3⟩
  · exact k q H' hq0 (g1.trans h5) h6 ws acc h1 (h2.wide fun a z => ⟨nw_nw ok1 g1 a z.1, z.2⟩) (done acc h3)
theorem signs_get' {z : Str} {i : Nat} {d : D} (h : (signs z)[i]? = some d) : ∃ n, z.cps.toList[i]? = some n ∧ d = .str ⟨#[n]⟩ := by
  unfold signs at h
  rw [List.getElem?_map] at h
  cases e : z.cps.toList[i]? with
  | none => rw [e] at h; cases h
  | some n => rw [e] at h; cases h; exact ⟨n, rfl, rfl⟩
end
end Vl
end
section
set_option maxHeartbeats 4000000
namespace Vl
open PySem PySem.Spec PyProof.Rows L2
variable {cls : Nat → Addr}
/-! ### own.extend(tuple) -/
section
variable {c : Cy cls} {R R' : Addr → Prop} {H H' : Hp} {σ : L2.St} {ρ : Rho}
/-! ### max, min of one list of ints -/
/-! ### tuple(own) -/
theorem we_otup {i : Nat} {x : Str} {npos pp pos : Pos} {ds : List D} {P : D → Prop} {ex : Xd → Prop} (nb : NB c.X.mg) (hN : c.X.N[i]? = some x) (hρ : ρ[i]? = some (some (.lst ds))) (h : P (.tup ds))
    (hv : Vis c.X.env.scope x := by first | exact Or.inl rfl | exact Or.inr (Or.inl rfl) | exact Or.inr (Or.inr rfl)) (hd : (x == ("__debug__" : Str)) = false := by decide) (hcd : (x == ("__classdict__" : Str)) = false := by decide) (hg : Gl c.X "tuple" := by rfl)
    (he : starEach [.Name x npos] c.X.env = (false, eval (.Name x npos) c.X.env) :: starEach [] c.X.env := by rfl) (hpl : (backTo pos (starEach [] c.X.env)).any (·.1) = false := by rfl) : WE c (.Call (.Name "tuple" pp) [.Name x npos] [] pos) ρ P ex :=
  we_of (pe_callTy call_tuple_of hg (nb _ bl_tuple) bt_tuple (pa_cons (pe_var hN hv hd hcd) pa_nil he) (by decide) (by decide) he hpl) fun σ H R E S p y => by
    obtain ⟨a, vs, h1, h2, h3, h4, h5⟩ := S.lst i ds hρ
    exact ⟨.ref a, h1, a, vs, rfl, .inl ⟨sq_l h4, fun l hl => Fin.new S.ok hl (.tup (.inr hl) upd_same (DqL.up (c := c) hl h5)) h⟩⟩
/-! ### a field of an object that is being made -/
/-! ### a, b = e: two new lists -/
end
/-! ### walking an object whose __iter__ is «return iter(self.f.g)», g a tuple -/
end Vl
end
section
set_option maxHeartbeats 4000000
namespace Vl
open PySem PySem.Spec PyProof.Rows L2 L2H HotX
variable {cls : Nat → Addr}
/-! ### defs that are called where nothing is being shown -/
structure FnG (P : Program) (w : World) (K : PySem.W.Frag) (mg : Str → Option Value) (base : Heap) (CX : CXT) (k : Nat) (f : Addr) (fd : FuncData) (ps : List Str) (sp : Sp) : Prop where
  len : ∀ vs H Q E, sp vs H Q E → vs.length = ps.length
  run : ∀ (A : Around) (outer : List Env) (s : Shared) (H : Hp) (args : Args) (us : List Value) (vs : List V) (Q : VK) (E : XK), Room k A → A.guards = some [] → Env0 P w K mg base A outer s H → BindsTo s fd args (ps.zip us) → Vals vs us → sp vs H Q E →
    codeAny (model P w) A (.call (.ref f) args) (CR CX outer P w H s Q E) s
section
variable {P : Program} {w : World} {K : PySem.W.Frag} {mg : Str → Option Value} {base : Heap}
theorem okG {CX : CXT} {x qual : Str} {st : Stmt} {f : Addr} {fd : FuncData} {N ps : List Str} {k : Nat} {sp : Sp} (F : Fun K x qual st f fd) (S : FnScope N ps (defScope st)) (len : ∀ vs H Q E, sp vs H Q E → vs.length = ps.length)
    (bd : ∀ (cdv : Value) (A : Around) (outer : List Env) (s : Shared) (H : Hp) (vs : List V) (Q : VK) (E : XK), Room k (A.deeper (envOfC qual (defScope st) s.heap.objs.size f cdv)) → A.guards = some [] → sp vs H Q E →
      ∃ t, PSs (cxOf CX P w K mg base N qual (defScope st) f cdv A outer s H E) (defBody st) t ∧ t { nx := fun _ H' => Q .non H', rt := Q } (L2.start N vs) H) : FnG P w K mg base CX (k + 1) f fd ps sp := by
  have ⟨_, _, _, _, _, _, cdv, _, _, e, lk, hc⟩ := F.ex
  cases e
  refine ⟨len, fun A outer s H args us vs Q E room hG env bnd rv pr => ?_⟩
  have kin : K.In s.heap := env.mod.kin.keeps fun b o z => (env.bs b o z).1
  have lims : s.heap.NoLimit := env.mod.nolimit.keeps fun b o z => (env.bs b o z).1
  have kinds : ∀ y ∈ ps.zip us, (defScope st).names.lookup y.1 = some .local ∨ ((defScope st).names.lookup y.1 = some .cell ∧ ((cellsFrom (s.heap.objs.size + 1) (defScope st).names []).lookup y.1).isSome = true) := by
    rintro ⟨n, v⟩ hy
    exact (S.par n (List.of_mem_zip hy).1).imp id fun z => ⟨z, PySem.W.cellsFrom_some _ _ _ (.inl z)⟩
  refine codeAny_call_function room.depth (kin _ _ lk) rfl S.co S.gen rfl (PySem.W.codeRec_of kin hc) (bnd _ _ _ _ (wpAny_newFunctionEnv_cells S.kind kinds fun en he s1 ic => ?_))
  subst he
  refine ⟨lims.keeps ic.toInCall.keep, codeAny_func ?_⟩
  have ⟨t, ht, hq⟩ := bd cdv A outer s H vs Q E (room.deeper _) hG pr
  have I := inv_start (CX := CX) (P := P) (w := w) (mg := mg) (base := base) (E := E) S room.hd env (len _ _ _ _ pr) rv ic
  refine wpAny_mono (ht.run [] s1 (L2.start N vs) H _ I hq) (fun fl s' hs => ?_) fun _ _ z => z
  cases fl with
  | ret u =>
    have ⟨v, σ', H', J, r, q⟩ := hs
    exact ⟨v, H', J.os, J.bare, J.base, J.hok, r, q⟩
  | next =>
    have ⟨σ', H', J, q⟩ := hs
    exact ⟨.non, H', J.os, J.bare, J.base, J.hok, rfl, q⟩
  | brk =>
    have ⟨_, _, _, no⟩ := hs
    exact no.elim
  | cont =>
    have ⟨_, _, _, no⟩ := hs
    exact no.elim
/-- nothing is being shown here -/
def GX (c : Cy cls) : Prop := c.X.A.guards = some []
structure DfG (P : Program) (w : World) (K : PySem.W.Frag) (mg : Str → Option Value) (base : Heap) (cls : Nat → Addr) (x : Str) (k : Nat) (ps : List Str) (fs : FS) : Prop where
  ex : ∃ f fd, FnG P w K mg base (L2N.CX P w) k f fd ps (spOf cls fs) ∧ mg x = some (.ref f) ∧ PySem.W.keepIn K (.ref f) = true ∧ Binds K fd ps []
theorem def_okG {x qual : Str} {st : Stmt} {f : Addr} {fd : FuncData} {N ps : List Str} {k : Nat} {fs : FS} (F : Fun K x qual st f fd) (S : FnScope N ps (defScope st)) (len : ∀ ds rt ex, fs ds rt ex → ds.length = ps.length)
    (body : ∀ (cdv : Value) (A : Around) (outer : List Env) (s : Shared) (H : Hp) (E : XK) (W : Wd cls) (R : Addr → Prop) (ds : List D) (rt : D → Prop) (ex : Xd → Prop), Room k (A.deeper (envOfC qual (defScope st) s.heap.objs.size f cdv)) → GX (cyOf P w K mg base N qual (defScope st) f cdv A outer s H E W R) → fs ds rt ex →
      WSs (cyOf P w K mg base N qual (defScope st) f cdv A outer s H E W R) (defBody st) (rho0 N ds) { nx := fun _ => rt .non, rt := fun _ => rt }) : FnG P w K mg base (L2N.CX P w) (k + 1) f fd ps (spOf cls fs) := by
  refine okG F S (fun vs H Q E h => ?_) (fun cdv A outer s H vs Q E hr hG h => ?_)
  · obtain ⟨W, R, ds, rt, ex, _, _, q, h, _⟩ := h
    rw [q.length]
    exact len _ _ _ h
  · obtain ⟨W, R, ds, rt, ex, nd, ok, q, h, k1, k2⟩ := h
    refine ⟨_, pssU (cyOf P w K mg base N qual (defScope st) f cdv A outer s H E W R) _, rho0 N ds, R, fun _ => E, { nx := fun _ => rt .non, rt := fun _ => rt }, Sl.start nd ok q, L2N.takes_of rfl rfl rfl rfl, ⟨fun R' H' σ ρ S _ h => ?_, fun R' H' σ ρ v d S q h => k1 v d H' S.gr S.ok (q.wide S.sub) h, fun _ _ _ _ _ _ z => z.elim, fun _ _ _ _ _ _ z => z.elim⟩, fun R' H' σ ρ x kk d S a h => h.elim, body cdv A outer s H E W R ds rt ex hr hG h⟩
    exact k1 .non .non H' S.gr S.ok .non h
end
section
variable {c : Cy cls} {ρ : Rho}
theorem we_callG {x : Str} {p pos : Pos} {e : Expr} {es : List Expr} {k : Nat} {ps : List Str} {fs : FS} {P : D → Prop} {ex : Xd → Prop} (hG : GX c) (d : DfG c.X.prog c.X.w c.X.K c.X.mg c.X.base cls x k ps fs) (room : Room k c.X.A) (h : WAs c ρ ex (e :: es) (fun ds => fs ds P fun _ => False))
    (hg : Gl c.X x := by rfl) (ha : PA c.X (e :: es) (tAs c (e :: es)) := by (repeat (first | exact pa_nil | refine pa_cons (peU _ _) ?_))) (hdb : (x == ("__debug__" : Str)) = false := by decide)
    (he : starEach (e :: es) c.X.env = (false, eval e c.X.env) :: starEach es c.X.env := by rfl) (hpl : (backTo pos (starEach es c.X.env)).any (·.1) = false := by rfl) : WE c (.Call (.Name x p) (e :: es) [] pos) ρ P ex := by
  refine ⟨fun pins s σ H R E I S ps' y => ?_⟩
  obtain ⟨f, fd, F, hm, hk, hb⟩ := d.ex
  refine wpAny_Call_Name_kw (ld_glob I hg hm ?_ hdb)
  have h' : tAs c (e :: es) σ H (fun vs H1 => spOf cls fs vs H1 (Fin c R H P) E0) := tAs.mk h S ps' y fun vs H1 ⟨ds, g, ok, q, hd⟩ => ⟨c.W, Nw R H, ds, P, fun _ => False, (S.grow g ok).ndr, ok, q, hd, fun v d H2 g2 ok2 q2 h2 => Fin.back g ok ⟨d, g2, ok2, q2, h2⟩, fun _ _ _ _ _ _ _ z => z.elim⟩
  refine PySem.W.callWith_K (h₀ := c.X.base) I.ok.mod.kin hk (thn (ha.run pos pins s σ H _ I h') fun us s1 ⟨vs, H1, I1, r, q⟩ => ⟨I1.kIn, ?_⟩) he hpl
  have ul : us.length = ps.length := (Paired.length r).symm.trans (F.len _ _ _ _ q)
  have bd := hb s1 us I1.kIn (by rw [List.append_nil]; exact ul)
  rw [List.append_nil] at bd
  refine wpAny_call (codeAny_mono (F.run c.X.A c.X.stack s1 H1 ⟨us, []⟩ us vs _ E0 room hG I1.env0 bd r q) fun res s' done => ?_)
  rcases res with er | fl
  · exact passAll pins H1 s1 er s' I1 done
  · cases fl with
    | ret u => exact I1.after done
    | next => exact False.elim done
    | brk => exact False.elim done
    | cont => exact False.elim done
end
/-! ### a def that is handed the exception, where nothing is being shown -/
structure FnPG (P : Program) (w : World) (K : PySem.W.Frag) (mg : Str → Option Value) (base : Heap) (CX : CXT) (k : Nat) (f : Addr) (fd : FuncData) (ps : List Str) (sp : Addr × Obj → Sp) : Prop where
  len : ∀ p vs H Q E, sp p vs H Q E → vs.length = ps.length
  run : ∀ (A : Around) (outer : List Env) (s : Shared) (H : Hp) (args : Args) (us : List Value) (vs : List V) (Q : VK) (E : XK) (p : Addr × Obj), RoomH k A → A.guards = some [] → Hot1 A p → PinOk outer H s p → Env0 P w K mg base A outer s H → BindsTo s fd args (ps.zip us) → Vals vs us → sp p vs H Q E →
    codeAny (model P w) A (.call (.ref f) args) (CR CX outer P w H s Q E) s
section
variable {P : Program} {w : World} {K : PySem.W.Frag} {mg : Str → Option Value} {base : Heap}
theorem okPG {CX : CXT} {x qual : Str} {st : Stmt} {f : Addr} {fd : FuncData} {N ps : List Str} {k : Nat} {sp : Addr × Obj → Sp} (F : Fun K x qual st f fd) (S : FnScope N ps (defScope st)) (len : ∀ p vs H Q E, sp p vs H Q E → vs.length = ps.length)
    (bd : ∀ (cdv : Value) (A : Around) (outer : List Env) (s : Shared) (H : Hp) (vs : List V) (Q : VK) (E : XK) (p : Addr × Obj), A.guards = some [] → Hot1 A p → RoomH k (A.deeper (envOfC qual (defScope st) s.heap.objs.size f cdv)) → sp p vs H Q E →
      ∃ t, PSs (cxH CX P w K mg base N qual (defScope st) f cdv A outer s H E p) (defBody st) t ∧ t { nx := fun _ H' => Q .non H', rt := Q } (L2.start N vs) H) : FnPG P w K mg base CX (k + 1) f fd ps sp := by
  have ⟨_, _, _, _, _, _, cdv, _, _, e, lk, hc⟩ := F.ex
  cases e
  refine ⟨len, fun A outer s H args us vs Q E p room hG hot pin env bnd rv pr => ?_⟩
  have kin : K.In s.heap := env.mod.kin.keeps fun b o z => (env.bs b o z).1
  have lims : s.heap.NoLimit := env.mod.nolimit.keeps fun b o z => (env.bs b o z).1
  have kinds : ∀ y ∈ ps.zip us, (defScope st).names.lookup y.1 = some .local ∨ ((defScope st).names.lookup y.1 = some .cell ∧ ((cellsFrom (s.heap.objs.size + 1) (defScope st).names []).lookup y.1).isSome = true) := by
    rintro ⟨n, v⟩ hy
    exact (S.par n (List.of_mem_zip hy).1).imp id fun z => ⟨z, PySem.W.cellsFrom_some _ _ _ (.inl z)⟩
  refine codeAny_call_function room.depth (kin _ _ lk) rfl S.co S.gen rfl (PySem.W.codeRec_of kin hc) (bnd _ _ _ _ (wpAny_newFunctionEnv_cells S.kind kinds fun en he s1 ic => ?_))
  subst he
  refine ⟨lims.keeps ic.toInCall.keep, codeAny_func ?_⟩
  have ⟨t, ht, hq⟩ := bd cdv A outer s H vs Q E p hG hot (room.deeper _) pr
  have I := inv_startH (CX := CX) (P := P) (w := w) (mg := mg) (base := base) (E := E) S pin env (len _ _ _ _ _ pr) rv ic
  refine wpAny_mono (ht.run [] s1 (L2.start N vs) H _ I hq) (fun fl s' hs => ?_) fun _ _ z => z
  cases fl with
  | ret u =>
    have ⟨v, σ', H', J, r, q⟩ := hs
    exact ⟨v, H', J.os, J.bare, J.base, J.hok, r, q⟩
  | next =>
    have ⟨σ', H', J, q⟩ := hs
    exact ⟨.non, H', J.os, J.bare, J.base, J.hok, rfl, q⟩
  | brk =>
    have ⟨_, _, _, no⟩ := hs
    exact no.elim
  | cont =>
    have ⟨_, _, _, no⟩ := hs
    exact no.elim
theorem told_okG {x qual y : Str} {st : Stmt} {f : Addr} {fd : FuncData} {N : List Str} {fx : FXd} (F : Fun K x qual st f fd) (S : FnScope N [y] (defScope st))
    (body : ∀ (cdv : Value) (A : Around) (outer : List Env) (s : Shared) (H : Hp) (E : XK) (W : Wd cls) (R : Addr → Prop) (p : Addr × Obj) (dd : Addr) (xx : Xd) (rt : D → Prop), fx xx rt → GX (⟨cxH (L2N.CX P w) P w K mg base N qual (defScope st) f cdv A outer s H E p, W, R, H⟩ : Cy cls) → (A.deeper (envOfC qual (defScope st) s.heap.objs.size f cdv)).units + 64 < cLine →
      HX (⟨cxH (L2N.CX P w) P w K mg base N qual (defScope st) f cdv A outer s H E p, W, R, H⟩ : Cy cls) (p.1, dd, xx) →
      WSs (⟨cxH (L2N.CX P w) P w K mg base N qual (defScope st) f cdv A outer s H E p, W, R, H⟩ : Cy cls) (defBody st) (some (.exc (p.1, dd, xx)) :: List.replicate (N.length - 1) none) { nx := fun _ => rt .non, rt := fun _ => rt }) :
    FnPG P w K mg base (L2N.CX P w) 1 f fd [y] (spTold cls fx) := by
  refine okPG F S (fun p vs H Q E h => ?_) (fun cdv A outer s H vs Q E p hG hot room h => ?_)
  · obtain ⟨_, _, _, _, _, rfl, _⟩ := h
    rfl
  · obtain ⟨W, R, dd, xx, rt, rfl, nd, ok, hz, ⟨ws, hd⟩, hq, hf, k⟩ := h
    have h1 : 1 ≤ N.length := by
      have z := congrArg List.length S.pre
      rw [List.length_take] at z
      have z2 : ([y] : List Str).length = 1 := rfl
      rw [z2] at z
      omega
    have S0 : Sl (⟨cxH (L2N.CX P w) P w K mg base N qual (defScope st) f cdv A outer s H E p, W, R, H⟩ : Cy cls) R H (L2.start N [.ref p.1]) (some (.exc (p.1, dd, xx)) :: List.replicate (N.length - 1) none) := by
      have base := (Sl.start (c := (⟨cxH (L2N.CX P w) P w K mg base N qual (defScope st) f cdv A outer s H E p, W, R, H⟩ : Cy cls)) (N := N) (vs := [.non]) (ds := [.non]) nd ok (.cons .non .nil)).setExc (i := 0) hq
      exact base
    refine ⟨_, pssU (⟨cxH (L2N.CX P w) P w K mg base N qual (defScope st) f cdv A outer s H E p, W, R, H⟩ : Cy cls) _, _, R, fun _ => E, { nx := fun _ => rt .non, rt := fun _ => rt }, S0, L2N.takes_of rfl rfl rfl rfl, ⟨fun R' H' σ ρ S _ h => ?_, fun R' H' σ ρ v d S q h => k v d H' S.gr S.ok (q.wide S.sub) h, fun _ _ _ _ _ _ z => z.elim, fun _ _ _ _ _ _ z => z.elim⟩, fun R' H' σ ρ x kk d S a h => h.elim, body cdv A outer s H E W R p dd xx rt hf hG (by have := room.un; omega) ⟨p.2, ws, List.mem_singleton.mpr rfl, hot, hz, hd⟩⟩
    exact k .non .non H' S.gr S.ok .non h
/-- such a def under its name -/
structure DhG (P : Program) (w : World) (K : PySem.W.Frag) (mg : Str → Option Value) (base : Heap) (cls : Nat → Addr) (x : Str) (fx : FXd) : Prop where
  ex : ∃ f fd y, FnPG P w K mg base (L2N.CX P w) 1 f fd [y] (spTold cls fx) ∧ mg x = some (.ref f) ∧ PySem.W.keepIn K (.ref f) = true ∧ Binds K fd [y] []
end
section
variable {c : Cy cls} {R : Addr → Prop} {H H' : Hp} {σ : L2.St} {ρ : Rho}
/-- g(n), n the exception that is handled here -/
theorem we_toldG {i : Nat} {x n : Str} {p px pos : Pos} {e : Addr × Addr × Xd} {fx : FXd} {P : D → Prop} {ex : Xd → Prop} (hx : HX c e) (hG : GX c) (d : DhG c.X.prog c.X.w c.X.K c.X.mg c.X.base cls x fx) (room : RoomH 1 c.X.A) (hN : c.X.N[i]? = some n) (hρ : ρ[i]? = some (some (.exc e))) (h : fx e.2.2 P)
    (hg : Gl c.X x := by rfl) (hv : Vis c.X.env.scope n := by first | exact Or.inl rfl | exact Or.inr (Or.inl rfl) | exact Or.inr (Or.inr rfl)) (hd : (n == ("__debug__" : Str)) = false := by decide) (hcd : (n == ("__classdict__" : Str)) = false := by decide) (hdb : (x == ("__debug__" : Str)) = false := by decide)
    (he : starEach [.Name n px] c.X.env = (false, eval (.Name n px) c.X.env) :: starEach [] c.X.env := by rfl) (hpl : (backTo pos (starEach [] c.X.env)).any (·.1) = false := by rfl) : WE c (.Call (.Name x p) [.Name n px] [] pos) ρ P ex := by
  refine ⟨fun pins s σ H R E I S pa y => ?_⟩
  obtain ⟨f, fd, yy, F, hm, hk, hb⟩ := d.ex
  obtain ⟨oe, ws, hmem, hot, hz, hda⟩ := hx
  obtain ⟨v, h1, h2⟩ := S.exc i e hρ
  refine wpAny_Call_Name_kw (ld_glob I hg hm ?_ hdb)
  have args : PA c.X [.Name n px] (tCons (tVar i) tNil) := pa_cons (pe_var hN hv hd hcd) pa_nil
  refine PySem.W.callWith_K (h₀ := c.X.base) I.ok.mod.kin hk (thn (args.run pos pins s σ H (fun vs H1 => vs = [v] ∧ H1 = H) I ⟨v, h1, rfl, rfl⟩) fun us s1 ⟨vs, H1, I1, rv, ev, eH⟩ => ⟨I1.kIn, ?_⟩) he hpl
  subst ev
  rw [eH] at I1
  have e1 : v = .ref e.1 := h2.1
  subst e1
  have P1 := I1.pin (e.1, oe) (List.mem_append_left _ hmem)
  have pin : PinOk c.X.stack H s1 (e.1, oe) := ⟨P1.1, P1.2.1, fun z => (List.mem_cons.mp (I1.stkSub e.1 z)).elim P1.2.2.1 P1.2.2.2.1, P1.2.2.2.2⟩
  have sp : spTold cls fx (e.1, oe) [.ref e.1] H (Fin c R H P) E0 := ⟨c.W, R, e.2.1, e.2.2, P, rfl, S.ndr, S.ok, hz, ⟨ws, hda⟩, h2, h, fun v d H2 g ok q hp => ⟨d, g, ok, q, hp⟩⟩
  have ul : us.length = [yy].length := (Paired.length rv).symm
  have bd := hb s1 us I1.kIn (by rw [List.append_nil]; exact ul)
  rw [List.append_nil] at bd
  refine wpAny_call (codeAny_mono (F.run c.X.A c.X.stack s1 H ⟨us, []⟩ us [.ref e.1] _ E0 (e.1, oe) room hG hot pin I1.env0 bd rv sp) fun res s' done => ?_)
  rcases res with er | fl
  · exact passAll pins H s1 er s' I1 done
  · cases fl with
    | ret u => exact I1.after done
    | next => exact False.elim done
    | brk => exact False.elim done
    | cont => exact False.elim done
end
/-! ### repr of plain data -/
def rRepr (c : Cy cls) : List V → Hp → VK → Prop := fun xs H Q => ∃ (v : V) (d : PyData), xs = [v] ∧ L2.Dp c.X.K H v d ∧ d.showable = true ∧ d.hasDict = false ∧ d.depth ≤ 40 ∧ (∀ i, d = .int i → i.natAbs.log2 < 1920) ∧ d.shown.length ≤ sizeLine ∧ Q (.str d.shown) H
theorem call_repr {c : Cy cls} (hG : GX c) (hu : c.X.A.units + 64 < cLine) : CallR c.X (.builtin "repr") (rRepr c) := by
  intro pins s σ H xs us Q I r h
  obtain ⟨v, d, rfl, q, sh, nd, dp, hi, sl, k⟩ := h
  cases r with
  | cons ru rr =>
    cases rr
    cases q with
    | non =>
      cases (show _ = Value.none from ru)
      exact PySem.P.repr_of_none ⟨.str _, H, I.tok _, ⟨_, rfl⟩, k⟩
    | bl b =>
      cases (show _ = Value.bool b from ru)
      refine PySem.P.repr_of_bool ⟨.str _, H, I.tok _, ⟨_, rfl⟩, ?_⟩
      exact k
    | int i =>
      exact SkE.call_repr_int pins s σ H _ _ Q I (.cons ru .nil) ⟨i, rfl, hi i rfl, k⟩
    | str x =>
      obtain ⟨t, ht⟩ := ru
      subst ht
      exact PySem.P.repr_of_str ⟨.str _, H, I.tok _, ⟨_, rfl⟩, k⟩ sl
    | lst s1 s2 =>
      obtain ⟨as, hr⟩ := L2.Dp.reads I _ _ _ (.lst s1 s2) ru
      cases (show _ = Value.ref _ from ru)
      exact repr_of_reads' hr sh (fun z => by rw [nd] at z; cases z) hG (by omega) (fun _ _ e => e) (fun h' u tk kp => ⟨.str _, H, I.kept kp, ⟨_, rfl⟩, k⟩) sl
    | tup s1 s2 =>
      obtain ⟨as, hr⟩ := L2.Dp.reads I _ _ _ (.tup s1 s2) ru
      cases (show _ = Value.ref _ from ru)
      exact repr_of_reads' hr sh (fun z => by rw [nd] at z; cases z) hG (by omega) (fun _ _ e => e) (fun h' u tk kp => ⟨.str _, H, I.kept kp, ⟨_, rfl⟩, k⟩) sl
theorem bt_repr : bootBuiltins "repr" = some (.builtin "repr") := by decide +kernel
theorem bl_repr : ("repr" : Str) ∈ bltNames := by decide
/-- data that can be shown -/
structure repOk (d : D) : Prop where
  x : okX d
  sh : (pyOf d).showable = true
  nd : (pyOf d).hasDict = false
  dp : (pyOf d).depth ≤ 40
  i : ∀ i, pyOf d = .int i → i.natAbs.log2 < 1920
  sl : (pyOf d).shown.length ≤ sizeLine
section
variable {c : Cy cls} {R : Addr → Prop} {H H' : Hp} {σ : L2.St} {ρ : Rho}
theorem lsd_repr : LsD c (rRepr c) (fun ds P => ∃ d, ds = [d] ∧ repOk d ∧ P (.str (pyOf d).shown)) := fun R H vs ds P nd ok q f Q k => by
  obtain ⟨d, rfl, ho, hp⟩ := f
  cases q with
  | cons q1 q2 =>
    cases q2
    obtain ⟨n, hn⟩ := ho.x
    exact ⟨_, _, rfl, dp_of hn q1, ho.sh, ho.nd, ho.dp, ho.i, ho.sl, k _ _ (Fin.here ok nd (.str _) hp)⟩
theorem we_repr {a : Expr} {pp pos : Pos} {P : D → Prop} {ex : Xd → Prop} (nb : NB c.X.mg) (hG : GX c) (hu : c.X.A.units + 64 < cLine) (h : WE c a ρ (fun d => repOk d ∧ P (.str (pyOf d).shown)) ex)
    (hp : PE c.X (.Call (.Name "repr" pp) [a] [] pos) (tCB (rRepr c) (tAs c [a])) := by exact pe_callB (call_repr (by assumption) (by assumption)) (by rfl) ((by assumption : NB _) _ bl_repr) bt_repr (pa_cons (peU _ _) pa_nil)) :
    WE c (.Call (.Name "repr" pp) [a] [] pos) ρ P ex := we_blt hp lsd_repr (WE.mono h fun d ⟨h1, h2⟩ => ⟨d, rfl, h1, h2⟩)
end
end Vl
end
section
set_option maxHeartbeats 4000000
namespace Vl
open PySem PySem.Spec PyProof.Rows L2
/-- what the caller of a law wants -/
abbrev LawDone (s1 : Shared) (r : Except Value Flow) (s2 : Shared) : Prop := r = .ok (.ret (.bool true)) ∧ OldK s1.heap s2.heap ∧ s2.os = s1.os ∧ PyProof.Rows.AllBare s2.gens
/-- the law's def called with its script, where nothing is being shown -/
theorem lawG {P : Program} {w : World} {K : PySem.W.Frag} {mg mb : Str → Option Value} {CX : CXT} {k : Nat} {fa a : Addr} {fd : FuncData} {x : Str} {sp : Sp} {s1 : Shared} {vs : List Value} {ns : List Int}
    (k0 : K.In s1.heap) (m0 : s1.heap.Ns mainGlobals mg) (b0 : s1.heap.Ns builtinsNs mb) (b1 : ∀ y : Str, y ≠ "__name__" → mb y = bootBuiltins y) (l0 : s1.heap.NoLimit) (g0 : s1.gens = #[]) (ha : s1.heap.get? a = some ⟨.type "list", none, .seq vs.toArray 0, #[]⟩)
    (hi : PyProof.Rows.IntsAre vs ns) (hl : ns.length ≤ sizeLine) (room : Room k callerA) (F : ∀ base : Heap, K.In base → base.Ns mainGlobals mg → FnG P w K mg base CX k fa fd [x] sp) (bd : ∀ (s : Shared) (u : Value), BindsTo s fd ⟨[u], []⟩ [(x, u)])
    (hsp : ∀ H : Hp, Only H → SqL K H a (ns.map V.int) → sp [.ref a] H (fun v _ => v = .bl true) fun _ _ _ => False) (hcx : ∀ (H : Hp) (e : Value) (s2 : Shared), CX [] H s1 (fun _ _ _ => False) e s2 → False) :
    codeAny (model P w) callerA (.call (.ref fa) ⟨[.ref a], []⟩) (LawDone s1) s1 := by
  have rv := vals_ints hi
  have core : ∀ H : Hp, Only H → SqL K H a (ns.map V.int) → HOk P w H s1.heap → (∀ b, H b ≠ none → b = a) → (H a ≠ none → K.lookup a = none) → codeAny (model P w) callerA (.call (.ref fa) ⟨[.ref a], []⟩) (LawDone s1) s1 := by
    intro H hO hS hok hA hK
    have nd : ∀ {b : Addr} {o : Obj} {es ep}, s1.heap.get? b = some o → o.data = .dict es ep → H b = none := fun {b o es ep} e d => by
      cases q : H b with
      | none => rfl
      | some u =>
        have e1 := hA b (by rw [q]; exact fun z => nomatch z)
        subst e1
        rw [ha] at e
        cases e
        cases d
    have nk : ∀ {b m}, s1.heap.Ns b m → (hidT s1.heap H).Ns b m := fun {b m} h => by
      obtain ⟨o, es, ep, e, d, r⟩ := h
      exact ⟨o, es, ep, hidT_get e (nd e d), d, r⟩
    have kb : K.In (hidT s1.heap H) := fun b o e => hidT_get (k0 b o e) (by
      cases q : H b with
      | none => rfl
      | some u =>
        have e1 := hA b (by rw [q]; exact fun z => nomatch z)
        subst e1
        rw [hK (by rw [q]; exact fun z => nomatch z)] at e
        cases e)
    have hM : Mod K mg (hidT s1.heap H) := { kin := kb, glob := nk m0, blt := ⟨mb, nk b0, b1⟩, nolimit := (let ⟨mc, h1, h2⟩ := l0; ⟨mc, nk h1, h2⟩) }
    have e0 : Env0 P w K mg (hidT s1.heap H) callerA [] s1 H := { frames := rfl, mod := hM, bs := fun b o e => of_hidT e, bsz := Nat.le_of_eq (hidT_size s1.heap H), funs := trivial, frf := fun b hb => absurd hb (by exact List.not_mem_nil), hok := hok, bare := PyProof.Rows.AllBare.of_eq g0 }
    refine codeAny_mono ((F _ kb (nk m0)).run callerA [] s1 H ⟨[.ref a], []⟩ [.ref a] [.ref a] _ _ room rfl e0 (bd s1 (.ref a)) (.cons rfl .nil) (hsp H hO hS)) fun r s2 h => ?_
    rcases r with er | fl
    · exact (hcx H er s2 h).elim
    · cases fl with
      | ret u =>
        obtain ⟨v, H2, os, bare, un, ok2, r2, q⟩ := h
        subst q
        cases (show u = Value.bool true from r2)
        refine ⟨rfl, OldK.of_keep fun b o e => ?_, os, bare⟩
        cases q : H b with
        | none => exact un.keep b o e q (fun z => absurd z (by exact List.not_mem_nil)) (by exact List.not_mem_nil)
        | some u =>
          rcases hO b with z | ⟨ob, xs, z⟩
          · rw [z] at q
            cases q
          · have f2 := un.frzs b ob _ z
            have e1 := (hok b _ z).1
            have e2 := (ok2 b _ f2).1
            rw [e1] at e
            cases e
            exact e2
      | next => exact h.elim
      | brk => exact h.elim
      | cont => exact h.elim
  cases hk : K.lookup a with
  | none =>
    refine core (fun b => if b = a then some (.frz ⟨.type "list", none, .seq vs.toArray 0, #[]⟩ (.lst (ns.map V.int))) else none) (fun b => ?_) (.inl (.inr ⟨_, if_pos rfl⟩)) (fun b u z => ?_) (fun b z => ?_) (fun _ => hk)
    · by_cases hb : b = a
      · exact .inr ⟨_, _, if_pos hb⟩
      · exact .inl (if_neg hb)
    · dsimp only at z
      by_cases hb : b = a
      · rw [if_pos hb] at z
        cases z
        subst hb
        exact ⟨ha, by rw [List.length_map]; exact hl, vs, 0, rv, ha⟩
      · rw [if_neg hb] at z
        cases z
    · by_cases hb : b = a
      · exact hb
      · exact absurd (if_neg hb) z
  | some o =>
    have e := k0 a o hk
    rw [ha] at e
    cases e
    refine core (fun _ => none) (fun _ => .inl rfl) (.inr ⟨_, vs.toArray, 0, hk, rfl, rfl, rfl, ?_, by simpa using rv⟩) (fun b u z => by cases z) (fun b z => absurd rfl z) (fun z => absurd rfl z)
    rw [List.size_toArray, PyProof.Rows.IntsAre.length hi]
    exact hl
end Vl
end
section
set_option maxHeartbeats 4000000
namespace Vl
open PySem PySem.Spec PyProof.Rows L2
variable {cls : Nat → Addr}
/-! ### zip(text, text) at a name, walked by a comprehension whose sum is returned -/
def zipCell2 (z : Str) (t : Tok) (y : Str) (t2 : Tok) (n : Addr) : Nat → Option Obj
  | 0 => some { cls := .type (strIterType z), data := .fields #[.str z t, .int 0 0] }
  | 1 => some { cls := .type (strIterType y), data := .fields #[.str y t2, .int 0 0] }
  | 2 => some { cls := .type "tuple", data := .seq #[.ref n, .ref (n + 1)] }
  | 3 => some { cls := .type "tuple", data := .seq #[.none, .none] }
  | 4 => some { cls := .type "zip", data := .fields #[.none, .bool false, .bool false, .ref (n + 2), .ref (n + 3)] }
  | _ => none
def zipH2 (H : Hp) (z : Str) (t : Tok) (y : Str) (t2 : Tok) (n : Addr) : Hp := fun c => if n ≤ c then (zipCell2 z t y t2 n (c - n)).map (pinO c) else H c
theorem zipH2_lt {H : Hp} {z y : Str} {t t2 : Tok} {n c : Addr} (h : c < n) : zipH2 H z t y t2 n c = H c := by
  unfold zipH2
  rw [if_neg (Nat.not_le.mpr h)]
theorem zipH2_ge {H : Hp} {z y : Str} {t t2 : Tok} {n c : Addr} (h : n ≤ c) : zipH2 H z t y t2 n c = (zipCell2 z t y t2 n (c - n)).map (pinO c) := by
  unfold zipH2
  rw [if_pos h]
def rZip2 (n0 : Nat) : List V → Hp → VK → Prop := fun vs H Q => ∃ z y, vs = [.str z, .str y] ∧ ∀ n t t2, n0 ≤ n → (∀ c, n ≤ c → H c = none) → Q (.ref (n + 4)) (zipH2 H z t y t2 n)
theorem call_zip2 {X : Cx} : CallR X (.type "zip") (rZip2 X.s_0.heap.objs.size) := by
  intro pins s σ H xs us Q I r h
  obtain ⟨z, y, rfl, q⟩ := h
  cases r with
  | cons r1 rr =>
    cases rr with
    | cons r2 rr =>
      cases rr
      obtain ⟨t, rfl⟩ := r1
      obtain ⟨t2, rfl⟩ := r2
      have fr : ∀ c, s.heap.objs.size ≤ c → H c = none := fun c hc => I.hok.fresh hc
      refine zip_begins2 (begins_text z t) (begins_text y t2) trivial trivial fun h' hz hTI hTO h1 h2 hsz hk => ?_
      refine ⟨.ref (s.heap.objs.size + 4), zipH2 H z t y t2 s.heap.objs.size, inv_many (t' := s.toks) I hk (fun c u e => ?_) (fun c hc e => by rw [zipH2_lt hc]; exact e) (fun c u e => ?_), rfl, q _ t t2 I.sz fr⟩
      · have lt : c < s.heap.objs.size := by
          by_cases hc : c < s.heap.objs.size
          · exact hc
          · rw [fr c (Nat.not_lt.mp hc)] at e; cases e
        rw [zipH2_lt lt]
        exact e
      · by_cases hc : c < s.heap.objs.size
        · rw [zipH2_lt hc] at e
          exact .inl e
        · rw [zipH2_ge (Nat.not_lt.mp hc)] at e
          obtain ⟨m, hm⟩ : ∃ m : Nat, c = s.heap.objs.size + m := ⟨c - s.heap.objs.size, (Nat.add_sub_cancel' (Nat.not_lt.mp hc)).symm⟩
          subst hm
          rw [Nat.add_sub_cancel_left] at e
          match m, e with
          | 0, e => cases e; exact .inr ⟨_, rfl, h1⟩
          | 1, e => cases e; exact .inr ⟨_, rfl, h2⟩
          | 2, e => cases e; exact .inr ⟨_, rfl, hTI⟩
          | 3, e => cases e; exact .inr ⟨_, rfl, hTO⟩
          | 4, e => cases e; exact .inr ⟨_, rfl, hz⟩
          | m + 5, e => cases e
/-- the signs of z, of y -/
def It2s (z y : Str) : It :=
  ⟨fun i H => i < z.cps.size ∧ i < y.cps.size,
   fun i H v H' => ∃ T n m, v = .ref T ∧ H T = none ∧ H' = upd H T (.tup [.str ⟨#[n]⟩, .str ⟨#[m]⟩]) ∧ z.cps[i]? = some n ∧ y.cps[i]? = some m,
   fun i H => i = min z.cps.size y.cps.size⟩
theorem zlt2 {c n T k : Nat} (e : c = n + 4 ∨ c = n + 2 ∨ c = n + 3 ∨ c = n ∨ c = n + 1) (h : n + 4 < k) (hT : k ≤ T) : c ≠ T := by omega
theorem turn_zip2s {P : Program} {w : World} {K : PySem.W.Frag} {elts : List Expr} {kk : Nat} {tpos : Pos} (z y : Str) (t t2 : Tok) (n : Nat) :
    Turn P w K (.Tuple elts kk tpos) (It2s z y) [n + 4, n + 2, n + 3, n, n + 1] (n + 4) (fun i h => IsZip h (n + 4) (n + 2) (n + 3) .none ∧ IsTupOf2 h (n + 2) (.ref n) (.ref (n + 1)) ∧ (∃ a1 a2, IsTupOf2 h (n + 3) a1 a2) ∧ h.IsStrIter n (strIterType z) z t i ∧ h.IsStrIter (n + 1) (strIterType y) y t2 i) where
  mem := by simp
  obj := fun i h st c hc => by
    obtain ⟨hz, hTI, ⟨x, u, hTO⟩, ⟨o1, e1, _, d1⟩, ⟨o2, e2, _, d2⟩⟩ := st
    have e' : c = n + 4 ∨ c = n + 2 ∨ c = n + 3 ∨ c = n ∨ c = n + 1 := by simpa using hc
    rcases e' with q | q | q | q | q
    · rw [q]; exact ⟨_, hz, fun v q => nomatch q⟩
    · rw [q]; exact ⟨_, hTI, fun v q => nomatch q⟩
    · rw [q]; exact ⟨_, hTO, fun v q => nomatch q⟩
    · rw [q]; exact ⟨o1, e1, fun v q => by rw [d1] at q; cases q⟩
    · rw [q]; exact ⟨o2, e2, fun v q => by rw [d2] at q; cases q⟩
  keep := fun i h h' st k => by
    obtain ⟨hz, hTI, ⟨x, u, hTO⟩, ⟨o1, e1, c1, d1⟩, ⟨o2, e2, c2, d2⟩⟩ := st
    exact ⟨k (n + 4) (by simp) _ hz, k (n + 2) (by simp) _ hTI, ⟨x, u, k (n + 3) (by simp) _ hTO⟩, ⟨o1, k n (by simp) _ e1, c1, d1⟩, ⟨o2, k (n + 1) (by simp) _ e2, c2, d2⟩⟩
  item := by
    intro X hP hw hK hc i pins s σ H E I hf st hg
    subst hP hw hK
    obtain ⟨hi, hj⟩ := hg
    obtain ⟨hz, hTI, hTO, h1, h2⟩ := st
    have S3 : ZipSep2 (n + 4) (n + 2) (n + 3) n (n + 1) [n] [n + 1] := by
      constructor <;> simp only [List.mem_cons, List.not_mem_nil, or_false, not_or, ne_eq, true_or] <;> first | exact zne (by omega) | exact ⟨zne (by omega), zne (by omega)⟩
    have G3 := GoesN.zip2 (prog := X.prog) (w := X.w) (elts := elts) (x1 := kk) (pos := tpos) S3 (Draws.text (A := X.A.in1) (I.ok.hd hc) n z t) (Draws.text (A := X.A.in1) (I.ok.hd hc) (n + 1) y t2)
    have big : n + 4 < s.heap.objs.size := Heap.lt_size hz
    refine G3.goes i s _ E (by omega) ⟨hz, hTI, hTO, h1, h2⟩ fun v h' tk hY st' hk htk => ?_
    obtain ⟨T, x', y', rfl, hTn, ⟨m, tk2, hm, rfl⟩, ⟨m2, tk3, hm2, rfl⟩, hT⟩ := hY
    have new : ObjOk X.prog X.w (upd H T (.tup [.str ⟨#[m]⟩, .str ⟨#[m2]⟩])) h' T (.tup [.str ⟨#[m]⟩, .str ⟨#[m2]⟩]) :=
      ⟨by show 2 ≤ sizeLine; decide, [.str ⟨#[m]⟩ tk2, .str ⟨#[m2]⟩ tk3], .cons ⟨_, rfl⟩ (.cons ⟨_, rfl⟩ .nil), hT⟩
    have I1 : Inv X pins σ (upd H T (.tup [.str ⟨#[m]⟩, .str ⟨#[m2]⟩])) { s with heap := h', toks := tk } :=
      I.turnedNew (t' := tk) (ch := [n + 4, n + 3, n, n + 1]) (fun c o hb q => hk c o hb q) (fun c hcm => hf c (by
        have e' : c = n + 4 ∨ c = n + 3 ∨ c = n ∨ c = n + 1 := by simpa using hcm
        rcases e' with q | q | q | q <;> rw [q] <;> simp)) hTn new
    obtain ⟨z', TI', TO', s1, s2⟩ := st'
    refine ⟨.ref T, _, I1, rfl, ⟨T, m, m2, rfl, I.hok.fresh hTn, rfl, hm, hm2⟩, ⟨z', TI', TO', s1, s2⟩, fun c hcm => ?_⟩
    have e' : c = n + 4 ∨ c = n + 2 ∨ c = n + 3 ∨ c = n ∨ c = n + 1 := by simpa using hcm
    rw [upd_ne (zlt2 e' big hTn)]
    exact (hf c hcm).1
  done := by
    intro X hP hw hK hc i pins s σ H E I hf st hi
    subst hP hw hK
    obtain ⟨hz, hTI, hTO, h1, h2⟩ := st
    have hi : i = min z.cps.size y.cps.size := hi
    have S3 : ZipSep2 (n + 4) (n + 2) (n + 3) n (n + 1) [n] [n + 1] := by
      constructor <;> simp only [List.mem_cons, List.not_mem_nil, or_false, not_or, ne_eq, true_or] <;> first | exact zne (by omega) | exact ⟨zne (by omega), zne (by omega)⟩
    have G3 := GoesN.zip2 (prog := X.prog) (w := X.w) (elts := elts) (x1 := kk) (pos := tpos) S3 (Draws.text (A := X.A.in1) (I.ok.hd hc) n z t) (Draws.text (A := X.A.in1) (I.ok.hd hc) (n + 1) y t2)
    refine G3.stops s (fun s1 => Inv X pins σ H s1) E (by rw [← hi]; exact ⟨hz, hTI, hTO, h1, h2⟩) fun h' tk hk htk => ?_
    exact I.turnedL (t' := tk) (ch := [n + 4, n + 3, n, n + 1]) (fun c o hb q => hk c o hb q) (fun c hcm => hf c (by
        have e' : c = n + 4 ∨ c = n + 3 ∨ c = n ∨ c = n + 1 := by simpa using hcm
        rcases e' with q | q | q | q <;> rw [q] <;> simp))
  self := fun A i s Q E st h => wpAny_pyIter_zip st.1 h
section
variable {c : Cy cls} {R : Addr → Prop} {H H' : Hp} {σ : L2.St} {ρ : Rho}
/-- the zip at the name i, to be walked -/
def iZipT (i n0 : Nat) : TI := fun σ H Q => ∃ (z y : Str) (t t2 : Tok) (n : Nat) (H1 : Hp), σ[i]? = some (some (.ref (n + 4))) ∧ n0 ≤ n ∧ H = zipH2 H1 z t y t2 n ∧ (∀ c, n ≤ c → H1 c = none) ∧ Q (It2s z y) H1
theorem pi_zipT {X : Cx} {i : Nat} {x : Str} {xp tpos : Pos} {elts : List Expr} {kk : Nat} (hN : X.N[i]? = some x) (hv : Vis X.env.scope x) (hd : (x == ("__debug__" : Str)) = false) (hcd : (x == ("__classdict__" : Str)) = false) :
    PI X (.Tuple elts kk tpos) (.Name x xp) (iZipT i X.s_0.heap.objs.size) := by
  refine ⟨fun pins s σ H Q I h => ?_⟩
  obtain ⟨z, y, t, t2, n, H1, hσ, n0, eH, fr, q⟩ := h
  refine thn ((pe_var hN hv hd hcd).run pins s σ H (fun v H' => v = .ref (n + 4) ∧ H' = H) I ⟨_, hσ, rfl, rfl⟩) fun u s1 ⟨v, H', I1, rv, ev, eh⟩ => ?_
  subst ev eh
  cases (show u = Value.ref (n + 4) from rv)
  subst eH
  have cell : ∀ m o, zipCell2 z t y t2 n m = some o → s1.heap.get? (n + m) = some o := fun m o e => by
    have q : zipH2 H1 z t y t2 n (n + m) = some (pinO (n + m) o) := by
      rw [zipH2_ge (Nat.le_add_right n m), Nat.add_sub_cancel_left, e]
      rfl
    exact (I1.hok _ _ q).1
  have hz : IsZip s1.heap (n + 4) (n + 2) (n + 3) .none := cell 4 _ rfl
  have sub : ∀ c u, H1 c = some u → zipH2 H1 z t y t2 n c = some u := fun c u e => by
    by_cases hc : c < n
    · rw [zipH2_lt hc]; exact e
    · rw [fr c (Nat.not_lt.mp hc)] at e; cases e
  have I2 : Inv X pins σ H1 s1 := inv_less I1 sub fun c u e => by
    by_cases hc : c < n
    · rw [zipH2_lt hc] at e; exact .inl e
    · rw [zipH2_ge (Nat.not_lt.mp hc)] at e
      cases q : zipCell2 z t y t2 n (c - n) with
      | none => rw [q] at e; cases e
      | some o => rw [q] at e; cases e; exact .inr ⟨o, rfl⟩
  refine wpAny_pyIter_zip hz ?_
  refine ⟨n + 4, _, _, _, H1, rfl, I2, turn_zip2s z y t t2 n, ⟨hz, cell 2 _ rfl, ⟨_, _, cell 3 _ rfl⟩, ⟨_, cell 0 _ rfl, rfl, rfl⟩, ⟨_, cell 1 _ rfl, rfl, rfl⟩⟩, fun c hcm => ?_, q⟩
  have e' : ∃ m, c = n + m ∧ (zipCell2 z t y t2 n m).isSome = true := by
    have e' : c = n + 4 ∨ c = n + 2 ∨ c = n + 3 ∨ c = n ∨ c = n + 1 := by simpa using hcm
    rcases e' with q | q | q | q | q
    · exact ⟨4, q, rfl⟩
    · exact ⟨2, q, rfl⟩
    · exact ⟨3, q, rfl⟩
    · exact ⟨0, q, rfl⟩
    · exact ⟨1, q, rfl⟩
  obtain ⟨m, rfl, hs⟩ := e'
  obtain ⟨o, ho⟩ := Option.isSome_iff_exists.mp hs
  have hh : zipH2 H1 z t y t2 n (n + m) = some (pinO (n + m) o) := by
    rw [zipH2_ge (Nat.le_add_right n m), Nat.add_sub_cancel_left, ho]
    rfl
  have f := ItX.inv_fp I1 hh (Nat.le_trans n0 (Nat.le_add_right n m))
  exact ⟨fr _ (Nat.le_add_right n m), f.2⟩
/-- the items -/
def zip2D (z y : Str) : List D := ((signs z).zip (signs y)).map fun p => .tup [p.1, p.2]
theorem zip2D_get {z y : Str} {i : Nat} {d : D} (h : (zip2D z y)[i]? = some d) : ∃ n m, z.cps.toList[i]? = some n ∧ y.cps.toList[i]? = some m ∧ d = .tup [.str ⟨#[n]⟩, .str ⟨#[m]⟩] := by
  unfold zip2D at h
  rw [List.getElem?_map] at h
  cases e : ((signs z).zip (signs y))[i]? with
  | none => rw [e] at h; cases h
  | some p =>
    rw [e] at h
    cases h
    rw [List.getElem?_zip_eq_some] at e
    obtain ⟨n, hn, e3⟩ := signs_get' e.1
    obtain ⟨m, hm, e4⟩ := signs_get' e.2
    exact ⟨n, m, hn, hm, by show D.tup [p.1, p.2] = _; rw [e3, e4]⟩
theorem it2s_iter {z y : Str} : IterD c R H (It2s z y) (zip2D z y) := by
  have ll : (zip2D z y).length = min z.cps.size y.cps.size := by
    unfold zip2D
    rw [List.length_map, List.length_zip, signs_length, signs_length]
    rfl
  refine ⟨fun _ => True, fun i Hc v H' => ∃ T n m, v = .ref T ∧ Hc T = none ∧ H' = upd Hc T (.tup [.str ⟨#[n]⟩, .str ⟨#[m]⟩]) ∧ z.cps[i]? = some n ∧ y.cps[i]? = some m, ⟨fun i H' hi _ => ?_, fun H' _ => ll, fun i H' v H2 hi _ h => h⟩, fun _ _ _ => trivial, fun i Hc v H' ⟨T, n, m, h1, h2, h3, h4, h5⟩ R' nd ok k => ?_⟩
  · rw [ll] at hi
    exact ⟨by omega, by omega⟩
  · subst h1 h3
    have sm : Same Hc (upd Hc T (.tup [.str ⟨#[n]⟩, .str ⟨#[m]⟩])) := same_upd h2
    refine ⟨.tup [.str ⟨#[n]⟩, .str ⟨#[m]⟩], ?_, sm, .tup (.inr h2) upd_same (.cons (.str _) (.cons (.str _) .nil))⟩
    have es : (signs z)[i]? = some (.str ⟨#[n]⟩) := by
      unfold signs
      rw [List.getElem?_map, Array.getElem?_toList, h4]
      rfl
    have es2 : (signs y)[i]? = some (.str ⟨#[m]⟩) := by
      unfold signs
      rw [List.getElem?_map, Array.getElem?_toList, h5]
      rfl
    unfold zip2D
    rw [List.getElem?_map, (show ((signs z).zip (signs y))[i]? = some (.str ⟨#[n]⟩, .str ⟨#[m]⟩) from List.getElem?_zip_eq_some.mpr ⟨es, es2⟩)]
    rfl
/-- x = zip(e1, e2); return sum([elt for a, b in x]) -/
theorem wss_zip2sum (i j k : Nat) {n x y : Str} {e1 e2 elt : Expr} {zp zpos np pos rpos lpos xp yp tp npos sup spos : Pos} {kk : Nat} {scope : Scope} {p : Po} (nb : NB c.X.mg) (nz : c.X.mg "zip" = none) (hN : c.X.N.Nodup) (hi : c.X.N[i]? = some n) (li : i < ρ.length)
    (h : WAs c ρ (p.ex ρ) [e1, e2] (fun ds => ∃ z y, ds = [.str z, .str y] ∧ (zip2D z y).length ≤ 1000000 ∧ ∃ f : Nat → D → D → Prop, (∀ m d, (zip2D z y)[m]? = some d → ∃ ρ', G2 j k d (wipeR (ρ.set i none) [j, k]) ρ' ∧ WEB c scope elt ρ' (fun y => f m d y)) ∧
      ∀ acc, acc.length = (zip2D z y).length → (∀ m d w, (zip2D z y)[m]? = some d → acc[m]? = some w → f m d w) → ∃ ns : List Int, acc = ns.map D.int ∧ p.rt (ρ.set i none) (.int ns.sum)))
    (hx : Loc c.X.env.scope n := by first | exact Or.inl rfl | exact Or.inr rfl) (hs : swapsWith (.Call (.Name "zip" zp) [e1, e2] [] zpos) (some (.Name n np)) pos.line c.X.env = pure false := by rfl) (hf : c.X.fn n = true ∨ c.X.env.scope.names.lookup n = some .local := by first | exact .inl rfl | exact .inr rfl)
    (hg : Gl c.X "zip" := by rfl) (hgs : Gl c.X "sum" := by rfl) (ha : PA c.X [e1, e2] (tAs c [e1, e2]) := by (repeat (first | exact pa_nil | refine pa_cons (peU _ _) ?_))) (he : starEach [e1, e2] c.X.env = (false, eval e1 c.X.env) :: starEach [e2] c.X.env := by rfl) (hpl : (backTo zpos (starEach [e2] c.X.env)).any (·.1) = false := by rfl)
    (hv : Vis c.X.env.scope n := by first | exact Or.inl rfl | exact Or.inr (Or.inl rfl) | exact Or.inr (Or.inr rfl)) (hd : (n == ("__debug__" : Str)) = false := by decide) (hcd : (n == ("__classdict__" : Str)) = false := by decide) (hc : c.X.calm = true := by rfl) (hjk : j ≠ k := by decide)
    (hpg : ∀ (s : Shared) (H : Hp) (C : Addr) (cl : List (Str × Addr)) (fp : List Addr), PG (c.X.blk s H scope (compEnvC scope cl C c.X.env) fp) (.Tuple [.Name x xp, .Name y yp] kk tp) (gTup c.X.K 2 (gCons (gName j) (gCons (gName k) gNil))) := by exact fun _ _ _ _ _ => pg_tup rfl (pgs_cons (pg_name (by assumption) rfl (Or.inl rfl)) (pgs_cons (pg_name (by assumption) rfl (Or.inl rfl)) pgs_nil)))
    (ok : BlkOk c.X.N c.X.env.scope scope [(x, j), (y, k)] := by exact blkOk_by (by kernel_rfl)) (hfs : ∀ x, foldedSetIterable (.Name n npos) c.X.env x = pure x := by intro _; rfl) :
    WSs c [.Assign [.Name n np] (.Call (.Name "zip" zp) [e1, e2] [] zpos) pos, .Return (some (.Call (.Name "sum" sup) [.ListComp elt [⟨.Tuple [.Name x xp, .Name y yp] kk tp, .Name n npos, [], 0⟩] scope lpos] [] spos)) rpos] ρ p :=
  ⟨fun pins s σ H R Ds E I S tk en ex => (pss_cons (ps_set hN hi hx (pe_callTy call_zip2 hg nz PyProof.Rows.boot_zip ha (by decide) (by decide) he hpl) hs hf)
      (pss_one (ps_ret (pe_callB (cr_sum hc) hgs (nb _ bl_sum) bt_sum (pa_cons (pe_lc hc hN (pi_zipT hi hv hd hcd) ok hpg (fun s H C cl fp => pts_of (test := none) s H C cl fp) (peUB scope elt) hfs) pa_nil))))).run pins s σ H Ds I (by
    unfold tSeq tAsg tCB
    refine tAs.mk (es := [e1, e2]) h.len S (tk.at σ) (ex.at S) fun vs H1 ⟨ds, g, ok1, q, ⟨z, y, ed, hlen, f, turn, done⟩, _⟩ => ?_
    subst ed
    cases q with
    | cons q0 q =>
      cases q with
      | cons q1 q =>
        cases q
        cases q0
        cases q1
        refine ⟨z, y, rfl, fun nn t t2 hn fr => ?_⟩
        have S1 : Sl c (Nw R H) H1 (σ.set i (some (.ref (nn + 4)))) (ρ.set i none) := (S.grow g ok1).setNone
        have lt : i < σ.length := by rw [S.len]; exact li
        refine ⟨z, y, t, t2, nn, H1, by rw [List.getElem?_set_self lt], hn, rfl, fr, ?_⟩
        refine lc_body (test := none) (vs := [j, k]) (G := G2 j k) (Q := fun x H1 => tNil (σ.set i (some (.ref (nn + 4)))) H1 fun xs H2 => rSum c.X.K (x :: xs) H2 Ds.rt) (P := fun acc => ∃ ns : List Int, acc = ns.map D.int ∧ p.rt (ρ.set i none) (.int ns.sum)) (Acc := fun m acc => acc.length = m ∧ ∀ (q : Nat) d w, (zip2D z y)[q]? = some d → acc[q]? = some w → f q d w) (tg_pair hjk) S1 Gr.refl ok1 it2s_iter hlen ⟨rfl, fun q d y _ e => by cases e⟩ (fun m d acc hm ⟨al, ha⟩ => ?_) (fun acc ⟨al, ha⟩ => done acc al ha) fun q H' hq gg ok' ws acc hw qq hp => ?_
        · obtain ⟨ρ', hρ, w⟩ := turn m d hm
          refine ⟨ρ', hρ, fun s H0 C cl fp => (w s H0 C cl fp).mono fun y hy => ⟨by rw [List.length_append, al]; rfl, fun q d' y' hd' hy' => ?_⟩⟩
          by_cases hq : q < acc.length
          · rw [List.getElem?_append_left hq] at hy'
            exact ha q d' y' hd' hy'
          · have eq : q = m := by
              have := (List.getElem?_eq_some_iff.mp hy').1
              rw [List.length_append, List.length_singleton] at this
              omega
            subst eq
            rw [List.getElem?_append_right (by omega), al, Nat.sub_self] at hy'
            cases hy'
            rw [hm] at hd'
            cases hd'
            exact hy
        · obtain ⟨ns, rfl, hrt⟩ := hp
          have hw := hw
          rw [qq.ints] at hw
          refine ⟨q, ns, rfl, sq_l hw, ?_⟩
          exact en.rt _ _ _ _ _ (.int ns.sum) (S1.grow gg ok') (.int _) hrt)⟩
/-- what a name holds is no longer told -/
theorem wss_forget {st : List Stmt} {p : Po} (i : Nat) (h : WSs c st (ρ.set i none) p) : WSs c st ρ p := by
  refine ⟨fun pins s σ H R Ds E I S tk en ex => h.run pins s σ H R Ds E I ?_ tk en ex⟩
  by_cases hi : i < σ.length
  · have := S.setNone (i := i) (o := σ[i])
    rw [List.set_getElem_self] at this
    exact this
  · have := S.setNone (i := i) (o := none)
    rw [List.set_eq_of_length_le (Nat.not_lt.mp hi)] at this
    exact this
end
end Vl
end
namespace K28
set_option maxHeartbeats 4000000
open PySem PySem.Spec PyProof.Rows L2 Vl
abbrev s_is_integer : Stmt := top 20
abbrev s_in_bounds : Stmt := top 21
abbrev s_is_tuple : Stmt := top 22
abbrev s_is_rising : Stmt := top 24
abbrev s_frozen : Stmt := top 25
abbrev s_misplaced : Stmt := top 26
abbrev s_is_text : Stmt := top 27
abbrev s_are_words : Stmt := top 28
abbrev s_check_words : Stmt := top 29
theorem sc_is_integer : FnScope ["thing"] ["thing"] (defScope s_is_integer) := ⟨rfl, rfl, rfl, by decide +kernel, rfl, by decide +kernel, by decide +kernel⟩
theorem nv_sc_is_integer : NmOk ["thing"] (defScope s_is_integer) 1 := ⟨by decide +kernel⟩
theorem sc_in_bounds : FnScope ["thing", "least", "most"] ["thing", "least", "most"] (defScope s_in_bounds) := ⟨rfl, rfl, rfl, by decide +kernel, rfl, by decide +kernel, by decide +kernel⟩
theorem nv_sc_in_bounds : NmOk ["thing", "least", "most"] (defScope s_in_bounds) 3 := ⟨by decide +kernel⟩
theorem sc_is_tuple : FnScope ["thing", "least", "most"] ["thing", "least", "most"] (defScope s_is_tuple) := ⟨rfl, rfl, rfl, by decide +kernel, rfl, by decide +kernel, by decide +kernel⟩
theorem nv_sc_is_tuple : NmOk ["thing", "least", "most"] (defScope s_is_tuple) 3 := ⟨by decide +kernel⟩
theorem sc_is_rising : FnScope ["row", "at"] ["row"] (defScope s_is_rising) := ⟨rfl, rfl, rfl, by decide +kernel, rfl, by decide +kernel, by decide +kernel⟩
theorem nv_sc_is_rising : NmOk ["row", "at"] (defScope s_is_rising) 1 := ⟨by decide +kernel⟩
theorem sc_frozen : FnScope ["thing", "part"] ["thing"] (defScope s_frozen) := ⟨rfl, rfl, rfl, by decide +kernel, rfl, by decide +kernel, by decide +kernel⟩
theorem nv_sc_frozen : NmOk ["thing", "part"] (defScope s_frozen) 1 := ⟨by decide +kernel⟩
theorem sc_misplaced : FnScope ["text", "letters", "least", "most", "at", "letter"] ["text", "letters", "least", "most"] (defScope s_misplaced) := ⟨rfl, rfl, rfl, by decide +kernel, rfl, by decide +kernel, by decide +kernel⟩
theorem nv_sc_misplaced : NmOk ["text", "letters", "least", "most", "at", "letter"] (defScope s_misplaced) 6 := ⟨by decide +kernel⟩
theorem sc_is_text : FnScope ["thing", "letters", "least", "most"] ["thing", "letters", "least", "most"] (defScope s_is_text) := ⟨rfl, rfl, rfl, by decide +kernel, rfl, by decide +kernel, by decide +kernel⟩
theorem nv_sc_is_text : NmOk ["thing", "letters", "least", "most"] (defScope s_is_text) 4 := ⟨by decide +kernel⟩
theorem sc_are_words : FnScope ["thing"] ["thing"] (defScope s_are_words) := ⟨rfl, rfl, rfl, by decide +kernel, rfl, by decide +kernel, by decide +kernel⟩
theorem nv_sc_are_words : NmOk ["thing"] (defScope s_are_words) 1 := ⟨by decide +kernel⟩
theorem sc_check_words : FnScope ["words"] ["words"] (defScope s_check_words) := ⟨rfl, rfl, rfl, by decide +kernel, rfl, by decide +kernel, by decide +kernel⟩
theorem nv_sc_check_words : NmOk ["words"] (defScope s_check_words) 1 := ⟨by decide +kernel⟩
variable {cls : Nat → Addr} {P : Program} {w : World} {K : PySem.W.Frag} {mg : Str → Option Value} {base : Heap}
local macro_rules | `(tactic| walk_at "vn") => `(tactic| (refine we_isNm ?_; (first | (refine we_nm (by assumption) ?_; (first | refine ⟨0, _, _, rfl, rfl, rfl, rfl, ?_⟩ | refine ⟨1, _, _, rfl, rfl, rfl, rfl, ?_⟩ | refine ⟨2, _, _, rfl, rfl, rfl, rfl, ?_⟩ | refine ⟨3, _, _, rfl, rfl, rfl, rfl, ?_⟩ | refine ⟨4, _, _, rfl, rfl, rfl, rfl, ?_⟩ | refine ⟨5, _, _, rfl, rfl, rfl, rfl, ?_⟩ | refine ⟨6, _, _, rfl, rfl, rfl, rfl, ?_⟩ | refine ⟨7, _, _, rfl, rfl, rfl, rfl, ?_⟩ | refine ⟨8, _, _, rfl, rfl, rfl, rfl, ?_⟩ | refine ⟨9, _, _, rfl, rfl, rfl, rfl, ?_⟩ | refine ⟨10, _, _, rfl, rfl, rfl, rfl, ?_⟩ | refine ⟨11, _, _, rfl, rfl, rfl, rfl, ?_⟩ | refine ⟨12, _, _, rfl, rfl, rfl, rfl, ?_⟩ | refine ⟨13, _, _, rfl, rfl, rfl, rfl, ?_⟩ | refine ⟨14, _, _, rfl, rfl, rfl, rfl, ?_⟩ | refine ⟨15, _, _, rfl, rfl, rfl, rfl, ?_⟩ | refine ⟨16, _, _, rfl, rfl, rfl, rfl, ?_⟩ | refine ⟨17, _, _, rfl, rfl, rfl, rfl, ?_⟩ | refine ⟨18, _, _, rfl, rfl, rfl, rfl, ?_⟩ | refine ⟨19, _, _, rfl, rfl, rfl, rfl, ?_⟩ | refine ⟨20, _, _, rfl, rfl, rfl, rfl, ?_⟩ | refine ⟨21, _, _, rfl, rfl, rfl, rfl, ?_⟩ | refine ⟨22, _, _, rfl, rfl, rfl, rfl, ?_⟩ | refine ⟨23, _, _, rfl, rfl, rfl, rfl, ?_⟩)) | refine we_nmB (i := 0) rfl rfl rfl ?_ | refine we_nmB (i := 1) rfl rfl rfl ?_ | refine we_nmB (i := 2) rfl rfl rfl ?_ | refine we_nmB (i := 3) rfl rfl rfl ?_ | refine we_nmB (i := 4) rfl rfl rfl ?_ | refine we_nmB (i := 5) rfl rfl rfl ?_ | refine we_nmB (i := 6) rfl rfl rfl ?_ | refine we_nmB (i := 7) rfl rfl rfl ?_ | refine we_nmB (i := 8) rfl rfl rfl ?_ | refine we_nmB (i := 9) rfl rfl rfl ?_ | refine we_nmB (i := 10) rfl rfl rfl ?_ | refine we_nmB (i := 11) rfl rfl rfl ?_ | refine we_nmB (i := 12) rfl rfl rfl ?_ | refine we_nmB (i := 13) rfl rfl rfl ?_ | refine we_nmB (i := 14) rfl rfl rfl ?_ | refine we_nmB (i := 15) rfl rfl rfl ?_ | refine we_nmB (i := 16) rfl rfl rfl ?_ | refine we_nmB (i := 17) rfl rfl rfl ?_ | refine we_nmB (i := 18) rfl rfl rfl ?_ | refine we_nmB (i := 19) rfl rfl rfl ?_ | refine we_nmB (i := 20) rfl rfl rfl ?_ | refine we_nmB (i := 21) rfl rfl rfl ?_ | refine we_nmB (i := 22) rfl rfl rfl ?_ | refine we_nmB (i := 23) rfl rfl rfl ?_)))
/-- one step: operators -/
local macro_rules | `(tactic| walk_at "v") => `(tactic| first
  | (refine gWE ?_; first
    | walk_at "vn"
    | (refine gCo ?_; first | refine we_int ?_ | refine we_str ?_ | refine we_bl ?_ | refine we_non ?_)
    | (refine gCa ?_; first | refine we_isA (by assumption) (by decide) ?_ | refine we_isA2 (by assumption) (by decide) (by decide) ?_ | refine we_len (by assumption) ?_ | refine we_all (by assumption) ?_ | refine we_sum (by assumption) ?_ | refine we_int1 (by assumption) ?_ | refine we_abs (by assumption) ?_ | refine we_tupleOf (by assumption) ?_)
    | (refine gBi ?_; first | refine we_mul ?_ | refine we_mod ?_ | refine we_fdiv ?_ | refine we_pow ?_ | refine we_sub ?_)
    | (refine gBo ?_; first | refine we_and ?_ | refine we_or ?_ | refine we_one ?_)
    | refine we_tup ?_ | refine we_lst ?_ | refine we_neg ?_ | refine we_not ?_ | refine we_leLe ?_)
  | (refine gWT ?_; first | refine wt_not ?_ | refine wt_leLe ?_))
section
set_option maxHeartbeats 4000000
def fs_is_integer : FS := fun ds rt _ => ∃ d, ds = [d] ∧ dat d = true ∧ rt (.bl (isA "int" d && !isA "bool" d))
theorem ok_is_integer {f : Addr} {fd : FuncData} (nb : NB mg) (F : Fun K "is_integer" "is_integer" s_is_integer f fd) : FnOk P w K mg base (L2N.CX P w) 1 f fd ["thing"] (spOf cls fs_is_integer) := by
  have hV := nv_sc_is_integer
  refine def_ok F sc_is_integer (fun ds rt ex h => ?_) (fun cdv A outer s H E W R ds rt ex hr h => ?_)
  · obtain ⟨d, rfl, _⟩ := h
    rfl
  · obtain ⟨d, rfl, hd, k⟩ := h
    refine wss_one (ws_ret ?_)
    repeat walk_at "v"
    refine ⟨hd, _, rfl, fun e => ?_, fun e => ?_⟩
    · repeat walk_at "v"
      refine ⟨hd, _, rfl, ?_⟩
      rw [e] at k
      exact k
    · rw [e] at k
      exact k
/-- an integer from least to most -/
def inB (d : D) (a b : Int) : Bool := match d with
  | .int i => decide (a ≤ i) && decide (i ≤ b)
  | _ => false
def fs_in_bounds : FS := fun ds rt _ => ∃ d a b, ds = [d, .int a, .int b] ∧ dat d = true ∧ rt (.bl (inB d a b))
theorem ok_in_bounds {f : Addr} {fd : FuncData} (nb : NB mg) (d1 : Df P w K mg base cls "is_integer" 1 ["thing"] fs_is_integer) (F : Fun K "in_bounds" "in_bounds" s_in_bounds f fd) : FnOk P w K mg base (L2N.CX P w) 2 f fd ["thing", "least", "most"] (spOf cls fs_in_bounds) := by
  have hV := nv_sc_in_bounds
  refine def_ok F sc_in_bounds (fun ds rt ex h => ?_) (fun cdv A outer s H E W R ds rt ex hr h => ?_)
  · obtain ⟨d, a, b, rfl, _⟩ := h
    rfl
  · obtain ⟨d, a, b, rfl, hd, k⟩ := h
    refine wss_one (ws_ret ?_)
    refine we_and (we_call d1 hr ?_)
    repeat walk_at "v"
    refine ⟨d, rfl, hd, _, rfl, fun e => ?_, fun e => ?_⟩
    · cases d <;> simp [isA] at e
      rename_i i
      repeat walk_at "v"
      refine ⟨_, _, rfl, rfl, _, rfl, fun e1 => ?_, fun e1 => ?_⟩
      · repeat walk_at "v"
        refine ⟨_, _, rfl, rfl, ?_⟩
        have e1 : decide (a ≤ i) = true := e1
        simp only [inB, e1, Bool.true_and] at k
        exact k
      · have e1 : decide (a ≤ i) = false := e1
        simp only [inB, e1, Bool.false_and] at k
        exact k
    · cases d <;> first | exact k | (simp [isA] at e)
/-- a tuple with a to b items -/
def tupB (d : D) (a b : Int) : Bool := match d with
  | .tup xs => decide (a ≤ (xs.length : Int)) && decide ((xs.length : Int) ≤ b)
  | _ => false
def fs_is_tuple : FS := fun ds rt _ => ∃ d a b, ds = [d, .int a, .int b] ∧ dat d = true ∧ rt (.bl (tupB d a b))
theorem ok_is_tuple {f : Addr} {fd : FuncData} (nb : NB mg) (F : Fun K "is_tuple" "is_tuple" s_is_tuple f fd) : FnOk P w K mg base (L2N.CX P w) 1 f fd ["thing", "least", "most"] (spOf cls fs_is_tuple) := by
  have hV := nv_sc_is_tuple
  refine def_ok F sc_is_tuple (fun ds rt ex h => ?_) (fun cdv A outer s H E W R ds rt ex hr h => ?_)
  · obtain ⟨d, a, b, rfl, _⟩ := h
    rfl
  · obtain ⟨d, a, b, rfl, hd, k⟩ := h
    refine wss_one (ws_ret ?_)
    repeat walk_at "v"
    refine ⟨hd, _, rfl, fun e => ?_, fun e => ?_⟩
    · cases d <;> simp [isA] at e
      rename_i xs
      repeat walk_at "v"
      refine ⟨_, rfl, _, _, rfl, rfl, _, rfl, fun e1 => ?_, fun e1 => ?_⟩
      · repeat walk_at "v"
        refine ⟨_, _, rfl, rfl, ?_⟩
        have e1 : decide (a ≤ (xs.length : Int)) = true := e1
        simp only [tupB, e1, Bool.true_and] at k
        exact k
      · have e1 : decide (a ≤ (xs.length : Int)) = false := e1
        simp only [tupB, e1, Bool.false_and] at k
        exact k
    · cases d <;> first | exact k | (simp [isA] at e)
end
section
set_option maxHeartbeats 4000000
open PySem PySem.Spec PyProof.Rows L2 Vl
variable {cls : Nat → Addr} {P : Program} {w : World} {K : PySem.W.Frag} {mg : Str → Option Value} {base : Heap}
/-! ### is_rising -/
def ltAt (l : List Nat) (i : Nat) : Bool := match l[i]?, l[i + 1]? with
  | some a, some b => decide ([a] < [b])
  | _, _ => false
def riseB (z : Str) : Bool := ((List.range (z.length - 1)).map (ltAt z.cps.toList)).all id
def fs_is_rising : FS := fun ds rt _ => ∃ z : Str, ds = [.str z] ∧ 1 ≤ z.length ∧ z.length ≤ 1000000 ∧ rt (.bl (riseB z))
theorem ok_is_rising {f : Addr} {fd : FuncData} (nb : NB mg) (F : Fun K "is_rising" "is_rising" s_is_rising f fd) : FnOk P w K mg base (L2N.CX P w) 1 f fd ["row"] (spOf cls fs_is_rising) := by
  have hV := nv_sc_is_rising
  refine def_ok F sc_is_rising (fun ds rt ex h => ?_) (fun cdv A outer s H E W R ds rt ex hr h => ?_)
  · obtain ⟨d, rfl, _⟩ := h
    rfl
  · obtain ⟨z, rfl, h1, h2, k⟩ := h
    have hz : z.length ≤ sizeLine := Nat.le_trans h2 (by rw [sizeLine_eq]; omega)
    have zl : z.cps.toList.length = z.length := rfl
    refine wss_one (ws_ret ?_)
    repeat walk_at "v"
    have hN := sc_is_rising.nd
    refine we_lc 1 hN (LC.map (wi_range1 (nb _ (by decide)) ?_))
    repeat walk_at "v"
    refine ⟨z.length, len_str h2, ?_⟩
    repeat walk_at "v"
    refine ⟨_, _, rfl, rfl, (z.length : Int) - 1, rfl, by omega, by omega, ?_⟩
    have tn : ((z.length : Int) - 1).toNat = z.length - 1 := by omega
    rw [tn]
    refine ⟨by rw [rangeD_length]; omega, fun i _ y => y = .bl (ltAt z.cps.toList i), fun i d hi => ?_, fun acc e1 e2 => ?_⟩
    · obtain ⟨hi, rfl⟩ := rangeD_get hi
      have a1 : z.cps.toList[i]? = some (z.cps.toList[i]'(by omega)) := List.getElem?_eq_getElem (by omega)
      have a2 : z.cps.toList[i + 1]? = some (z.cps.toList[i + 1]'(by omega)) := List.getElem?_eq_getElem (by omega)
      refine ⟨_, rfl, fun s0 H0 C cl fp => ?_⟩
      refine we_ltS ?_
      refine we_ix ?_
      repeat walk_at "v"
      refine ⟨_, _, rfl, by rw [Int.zero_add]; exact item_str h2 a1, ?_⟩
      refine we_ix ?_
      walk_at "v"
      refine we_add ?_
      repeat walk_at "v"
      refine ⟨_, _, rfl, rfl, _, _, rfl, by rw [Int.zero_add]; exact item_str h2 a2, ?_⟩
      refine ⟨_, _, rfl, rfl, ?_⟩
      simp only [ltAt, a1, a2]
    · have e := acc_range e1 e2
      exact ⟨(List.range (z.length - 1)).map (ltAt z.cps.toList), by rw [e, List.map_map]; rfl, k⟩
end
section
set_option maxHeartbeats 4000000
open PySem PySem.Spec PyProof.Rows L2 Vl
variable {cls : Nat → Addr} {P : Program} {w : World} {K : PySem.W.Frag} {mg : Str → Option Value} {base : Heap}
/-! ### frozen -/
def fs_frozen (n : Nat) : FS := fun ds rt _ => ∃ d, ds = [d] ∧ okD n d ∧ rt (tupled d)
theorem ok_frozen {f : Addr} {fd : FuncData} (nb : NB mg) (F : Fun K "frozen" "frozen" s_frozen f fd) (hm : mg "frozen" = some (.ref f)) (hb : Binds K fd ["thing"] []) : ∀ n, FnOk P w K mg base (L2N.CX P w) (n + 1) f fd ["thing"] (spOf cls (fs_frozen n)) := by
  intro n
  induction n with
  | zero =>
    have hV := nv_sc_frozen
    refine def_ok F sc_frozen (fun ds rt ex h => ?_) (fun cdv A outer s H E W R ds rt ex hr h => ?_)
    · obtain ⟨d, rfl, _⟩ := h
      rfl
    · obtain ⟨d, rfl, hd, k⟩ := h
      have hd : atomD d = true := hd
      refine wss_cons (ws_if (wt_val ?_))
      repeat walk_at "v"
      refine ⟨okD_dat (n := 0) hd, _, rfl, fun e => ?_, fun e => ?_⟩
      · cases d <;> first | exact Bool.noConfusion hd | exact Bool.noConfusion e
      · refine wss_nil (wss_one (ws_ret ?_))
        repeat walk_at "v"
        rw [show tupled d = d from remk_atom hd] at k
        exact k
  | succ n ih =>
    have hV := nv_sc_frozen
    refine def_ok F sc_frozen (fun ds rt ex h => ?_) (fun cdv A outer s H E W R ds rt ex hr h => ?_)
    · obtain ⟨d, rfl, _⟩ := h
      rfl
    · obtain ⟨d, rfl, hd, k⟩ := h
      have dn : Df P w K mg base cls "frozen" (n + 1) ["thing"] (fs_frozen n) := ⟨f, fd, ih, hm, F.kp, hb⟩
      have hN := sc_frozen.nd
      refine wss_cons (ws_if (wt_val ?_))
      repeat walk_at "v"
      refine ⟨okD_dat hd, _, rfl, fun e => ?_, fun e => ?_⟩
      · refine wss_one (ws_ret ?_)
        repeat walk_at "v"
        refine we_lc 1 hN (LC.map ?_)
        have key : ∀ xs : List D, (d = .lst xs ∨ d = .tup xs) → xs.length ≤ 1000000 ∧ ∀ x ∈ xs, okD n x := fun xs e => by
          rcases hd with hd | ⟨ys, hd, hl, hx⟩
          · rcases e with e | e <;> subst e <;> exact Bool.noConfusion hd
          · have : xs = ys := by rcases e with e | e <;> rcases hd with hd | hd <;> rw [e] at hd <;> cases hd <;> rfl
            subst this
            exact ⟨hl, hx⟩
        have elt : ∀ (xs : List D), (∀ x ∈ xs, okD n x) → ∀ (i : Nat) x, xs[i]? = some x → okD n x := fun xs h i x e => h x (List.mem_of_getElem? e)
        cases d <;> first | exact Bool.noConfusion e | skip
        · rename_i xs
          obtain ⟨hl, hx⟩ := key xs (.inl rfl)
          refine wi_list ?_
          repeat walk_at "v"
          refine ⟨xs, rfl, hl, fun i x y => y = tupled x, fun i x hi => ⟨_, rfl, fun s0 H0 C cl fp => ?_⟩, fun acc e1 e2 => ?_⟩
          · refine we_call dn hr ?_
            walk_at "v"
            exact ⟨x, rfl, elt xs hx i x hi, rfl⟩
          · rw [tupled_lst] at k
            exact ⟨_, .inl rfl, by rw [acc_map e1 e2]; exact k⟩
        · rename_i xs
          obtain ⟨hl, hx⟩ := key xs (.inr rfl)
          refine wi_tup ?_
          repeat walk_at "v"
          refine ⟨xs, rfl, hl, fun i x y => y = tupled x, fun i x hi => ⟨_, rfl, fun s0 H0 C cl fp => ?_⟩, fun acc e1 e2 => ?_⟩
          · refine we_call dn hr ?_
            walk_at "v"
            exact ⟨x, rfl, elt xs hx i x hi, rfl⟩
          · rw [tupled_tup] at k
            exact ⟨_, .inl rfl, by rw [acc_map e1 e2]; exact k⟩
      · have ha : atomD d = true := by
          rcases hd with hd | ⟨ys, hd | hd, _⟩
          · exact hd
          · subst hd; exact Bool.noConfusion e
          · subst hd; exact Bool.noConfusion e
        refine wss_nil (wss_one (ws_ret ?_))
        repeat walk_at "v"
        rw [show tupled d = d from remk_atom ha] at k
        exact k
end
section
set_option maxHeartbeats 4000000
open PySem PySem.Spec PyProof.Rows L2 Vl
variable {cls : Nat → Addr} {P : Program} {w : World} {K : PySem.W.Frag} {mg : Str → Option Value} {base : Heap}
/-! ### misplaced -/
def offAt (z L : Str) : Option Nat := z.cps.toList.findIdx? fun n => !decide (n ∈ L.cps.toList)
def mispD (d : D) (L : Str) (a b : Int) : D := match d with
  | .str z => if a ≤ (z.length : Int) ∧ (z.length : Int) ≤ b then (match offAt z L with | some i => .int (i : Nat) | none => .non) else .int (-1)
  | _ => .int (-1)
theorem mispD_str {z L : Str} {a b : Int} : mispD (.str z) L a b = if a ≤ (z.length : Int) ∧ (z.length : Int) ≤ b then (match offAt z L with | some i => .int (i : Nat) | none => .non) else .int (-1) := rfl
def txtOk (d : D) : Prop := dat d = true ∧ ∀ z, d = .str z → z.length ≤ 1000000
def fs_misplaced : FS := fun ds rt _ => ∃ d L a b, ds = [d, .str L, .int a, .int b] ∧ txtOk d ∧ rt (mispD d L a b)
theorem find_none {α : Type} {p : α → Bool} {l : List α} (h : ∀ (i : Nat) x, l[i]? = some x → p x = false) : l.findIdx? p = none := by
  rw [List.findIdx?_eq_none_iff]
  intro x hx
  obtain ⟨i, hi⟩ := List.getElem?_of_mem hx
  exact h i x hi
theorem find_some {α : Type} {p : α → Bool} {l : List α} {i : Nat} {x : α} (h1 : ∀ (j : Nat) y, j < i → l[j]? = some y → p y = false) (h2 : l[i]? = some x) (h3 : p x = true) : l.findIdx? p = some i := by
  rw [List.findIdx?_eq_some_iff_getElem]
  obtain ⟨hi, e⟩ := List.getElem?_eq_some_iff.mp h2
  refine ⟨hi, by rw [e]; exact h3, fun j hj => ?_⟩
  rw [h1 j _ hj (List.getElem?_eq_getElem (by omega))]
  decide
theorem ok_misplaced {f : Addr} {fd : FuncData} (nb : NB mg) (F : Fun K "misplaced" "misplaced" s_misplaced f fd) : FnOk P w K mg base (L2N.CX P w) 1 f fd ["text", "letters", "least", "most"] (spOf cls fs_misplaced) := by
  have hV := nv_sc_misplaced
  refine def_ok F sc_misplaced (fun ds rt ex h => ?_) (fun cdv A outer s H E W R ds rt ex hr h => ?_)
  · obtain ⟨d, L, a, b, rfl, _⟩ := h
    rfl
  · obtain ⟨d, L, a, b, rfl, ⟨hd, hz⟩, k⟩ := h
    have hN := sc_misplaced.nd
    refine wss_cons (ws_if (wt_wp (wp_or (wt_not (wt_val ?_)))))
    repeat walk_at "v"
    have bad : (∀ z : Str, d = .str z → ¬ (a ≤ (z.length : Int) ∧ (z.length : Int) ≤ b)) → rt (.int (-1)) := fun h => by
      cases d <;> first | exact k | skip
      rename_i z
      rw [mispD_str, if_neg (h z rfl)] at k
      exact k
    refine ⟨hd, _, rfl, fun e => ?_, fun e => ?_⟩
    · refine ⟨fun _ => wss_one (ws_ret ?_), fun z => Bool.noConfusion z⟩
      repeat walk_at "v"
      exact ⟨_, rfl, bad fun z e2 => by subst e2; exact Bool.noConfusion e⟩
    · cases d <;> first | exact Bool.noConfusion e | skip
      rename_i z
      have hl := hz z rfl
      refine wp_or1 (wt_not ?_)
      repeat walk_at "v"
      refine ⟨z.length, len_str hl, _, _, rfl, rfl, _, rfl, fun e1 => ?_, fun e1 => ?_⟩
      · repeat walk_at "v"
        refine ⟨_, _, rfl, rfl, _, rfl, fun e2 => ?_, fun e2 => ?_⟩
        · refine wss_one (ws_ret ?_)
          repeat walk_at "v"
          refine ⟨_, rfl, bad fun z' e3 hh => ?_⟩
          cases e3
          have : decide ((z.length : Int) ≤ b) = false := by simpa using e2
          exact absurd hh.2 (of_decide_eq_false this)
        · have c1 : a ≤ (z.length : Int) := of_decide_eq_true e1
          have c2 : (z.length : Int) ≤ b := by
            have : decide ((z.length : Int) ≤ b) = true := by simpa using e2
            exact of_decide_eq_true this
          rw [mispD_str, if_pos ⟨c1, c2⟩] at k
          refine wss_nil (wss_cons (ws_for rfl (wi_enumS (nb _ (by decide)) ?_)))
          repeat walk_at "v"
          refine ⟨z, rfl, fun i ρ' => (∀ (j : Nat) n, j < i → z.cps.toList[j]? = some n → n ∈ L.cps.toList) ∧ ∃ o1 o2, ρ' = [some (.val (.str z)), some (.val (.str L)), some (.val (.int a)), some (.val (.int b)), o1, o2], ⟨fun j n h => absurd h (Nat.not_lt_zero _), none, none, rfl⟩, fun i d ρ' hi hI => ?_, fun ρ' hI => ?_⟩
          · obtain ⟨x, hx, rfl⟩ := enum_get hi
            obtain ⟨n, hn, rfl⟩ := signs_get hx
            obtain ⟨hI, o1, o2, rfl⟩ := hI
            refine wg_tup rfl ⟨_, rfl, rfl, wg_name 4 hN rfl (wg_name 5 hN rfl ?_)⟩
            refine wss_one (ws_if (wt_notIn ?_))
            repeat walk_at "v"
            refine ⟨n, L, rfl, rfl, _, rfl, fun e3 => ?_, fun e3 => ?_⟩
            · refine wss_one (ws_ret ?_)
              repeat walk_at "v"
              have off : offAt z L = some i := find_some (fun j y hj hy => by simp [hI j y hj hy]) hn (by simpa using e3)
              rw [off] at k
              exact k
            · refine wss_nil ⟨fun j m hj hm => ?_, _, _, rfl⟩
              by_cases hji : j < i
              · exact hI j m hji hm
              · have : j = i := by omega
                subst this
                rw [hn] at hm
                cases hm
                simpa using e3
          · obtain ⟨hI, o1, o2, rfl⟩ := hI
            refine wss_one (ws_ret ?_)
            repeat walk_at "v"
            have off : offAt z L = none := find_none fun j y hy => by
              have hj : j < z.cps.toList.length := (List.getElem?_eq_some_iff.mp hy).1
              have := hI j y (by rw [enumD_length, signs_len]; exact hj) hy
              simp [this]
            rw [off] at k
            exact k
      · refine ⟨fun _ => wss_one (ws_ret ?_), fun z => Bool.noConfusion z⟩
        repeat walk_at "v"
        refine ⟨_, rfl, bad fun z' e3 hh => ?_⟩
        cases e3
        exact absurd hh.1 (of_decide_eq_false e1)
end
section
set_option maxHeartbeats 4000000
open PySem PySem.Spec PyProof.Rows L2 Vl
variable {cls : Nat → Addr} {P : Program} {w : World} {K : PySem.W.Frag} {mg : Str → Option Value} {base : Heap}
abbrev SMALL : Str := "abcdefghijklmnopqrstuvwxyz"
def fs_is_text : FS := fun ds rt _ => ∃ d L a b, ds = [d, .str L, .int a, .int b] ∧ txtOk d ∧ rt (.bl (isNon (mispD d L a b)))
theorem ok_is_text {f : Addr} {fd : FuncData} (d1 : Df P w K mg base cls "misplaced" 1 ["text", "letters", "least", "most"] fs_misplaced) (F : Fun K "is_text" "is_text" s_is_text f fd) : FnOk P w K mg base (L2N.CX P w) 2 f fd ["thing", "letters", "least", "most"] (spOf cls fs_is_text) := by
  have hV := nv_sc_is_text
  refine def_ok F sc_is_text (fun ds rt ex h => ?_) (fun cdv A outer s H E W R ds rt ex hr h => ?_)
  · obtain ⟨d, L, a, b, rfl, _⟩ := h
    rfl
  · obtain ⟨d, L, a, b, rfl, hd, k⟩ := h
    refine wss_one (ws_ret (we_isN (we_call d1 hr ?_)))
    repeat walk_at "v"
    refine ⟨d, L, a, b, rfl, hd, ?_⟩
    repeat walk_at "v"
    exact ⟨rfl, k⟩
/-- words: 1 to 4 letters, rising -/
def wordsB (d : D) : Bool := match d with
  | .str z => decide (1 ≤ z.length ∧ z.length ≤ 4) && ((offAt z SMALL).isNone && riseB z)
  | _ => false
theorem misp_words {d : D} (h : isNon (mispD d SMALL 1 4) = true) : ∃ z : Str, d = .str z ∧ 1 ≤ z.length ∧ z.length ≤ 4 ∧ (offAt z SMALL).isNone = true := by
  cases d <;> first | exact Bool.noConfusion h | skip
  rename_i z
  rw [mispD_str] at h
  by_cases c : (1 : Int) ≤ z.length ∧ (z.length : Int) ≤ 4
  · rw [if_pos c] at h
    refine ⟨z, rfl, by omega, by omega, ?_⟩
    cases e : offAt z SMALL with
    | none => rfl
    | some i => rw [e] at h; exact Bool.noConfusion h
  · rw [if_neg c] at h
    exact Bool.noConfusion h
def fs_are_words : FS := fun ds rt _ => ∃ d, ds = [d] ∧ txtOk d ∧ rt (.bl (wordsB d))
theorem ok_are_words {f : Addr} {fd : FuncData} {t : Tok} (hS : mg "SMALL" = some (.str SMALL t)) (d1 : Df P w K mg base cls "is_text" 2 ["thing", "letters", "least", "most"] fs_is_text) (d2 : Df P w K mg base cls "is_rising" 1 ["row"] fs_is_rising) (F : Fun K "are_words" "are_words" s_are_words f fd) :
    FnOk P w K mg base (L2N.CX P w) 3 f fd ["thing"] (spOf cls fs_are_words) := by
  have hV := nv_sc_are_words
  refine def_ok F sc_are_words (fun ds rt ex h => ?_) (fun cdv A outer s H E W R ds rt ex hr h => ?_)
  · obtain ⟨d, rfl, _⟩ := h
    rfl
  · obtain ⟨d, rfl, hd, k⟩ := h
    refine wss_one (ws_ret (we_and (we_call d1 hr ?_)))
    walk_at "v"
    refine we_gstr hS ?_
    repeat walk_at "v"
    refine ⟨d, _, _, _, rfl, hd, _, rfl, fun e => ?_, fun e => ?_⟩
    · obtain ⟨z, rfl, h1, h2, h3⟩ := misp_words e
      refine we_one (we_call d2 (hr.mono (by decide)) ?_)
      repeat walk_at "v"
      refine ⟨z, rfl, h1, by omega, ?_⟩
      unfold wordsB at k
      simp only [h1, h2, h3, and_self, decide_true, Bool.true_and] at k
      exact k
    · have wb : wordsB d = false := by
        cases d <;> first | rfl | skip
        rename_i z
        rw [mispD_str] at e
        unfold wordsB
        by_cases c : (1 : Int) ≤ z.length ∧ (z.length : Int) ≤ 4
        · rw [if_pos c] at e
          cases eo : offAt z SMALL with
          | none => rw [eo] at e; exact Bool.noConfusion e
          | some i => simp [eo]
        · have : ¬ (1 ≤ z.length ∧ z.length ≤ 4) := by omega
          simp [this]
      rw [wb] at k
      exact k
def fs_check_words : FS := fun ds rt ex => ∃ d, ds = [d] ∧ txtOk d ∧ (wordsB d = true → rt .non) ∧ (wordsB d = false → ex ⟨2, [("words", d)]⟩)
theorem ok_check_words {f : Addr} {fd : FuncData} (d1 : Df P w K mg base cls "are_words" 3 ["thing"] fs_are_words) (x1 : Er P w K mg base cls "BadWords" 2 ["words"]) (F : Fun K "check_words" "check_words" s_check_words f fd) :
    FnOk P w K mg base (L2N.CX P w) 4 f fd ["words"] (spOf cls fs_check_words) := by
  have hV := nv_sc_check_words
  refine def_ok F sc_check_words (fun ds rt ex h => ?_) (fun cdv A outer s H E W R ds rt ex hr h => ?_)
  · obtain ⟨d, rfl, _⟩ := h
    rfl
  · obtain ⟨d, rfl, hd, k1, k2⟩ := h
    refine wss_one (ws_if (wt_not (wt_val (we_call d1 hr ?_))))
    repeat walk_at "v"
    refine ⟨d, rfl, hd, _, rfl, fun e => ?_, fun e => ?_⟩
    · refine wss_one (ws_raise (we_mkx x1 (hr.mono (by decide)) ?_))
      repeat walk_at "v"
      exact k2 (by simpa using e)
    · exact wss_nil (k1 (by simpa using e))
end
section
set_option maxHeartbeats 4000000
open PySem PySem.Spec PyProof.Rows L2 Vl
variable {cls : Nat → Addr} {P : Program} {w : World} {K : PySem.W.Frag} {mg : Str → Option Value} {base : Heap}
abbrev s_is_standing : Stmt := top 40
abbrev s_is_rest : Stmt := top 41
abbrev s_wrong_standing : Stmt := top 42
theorem sc_is_standing : FnScope ["row", "signs", "many", "stride", "body", "nexts", "onto"] ["row", "signs", "many"] (defScope s_is_standing) := ⟨rfl, rfl, rfl, by decide +kernel, rfl, by decide +kernel, by decide +kernel⟩
theorem nv_sc_is_standing : NmOk ["row", "signs", "many", "stride", "body", "nexts", "onto"] (defScope s_is_standing) 6 := ⟨by decide +kernel⟩
theorem sc_is_rest : FnScope ["row"] ["row"] (defScope s_is_rest) := ⟨rfl, rfl, rfl, by decide +kernel, rfl, by decide +kernel, by decide +kernel⟩
theorem nv_sc_is_rest : NmOk ["row"] (defScope s_is_rest) 1 := ⟨by decide +kernel⟩
theorem sc_wrong_standing : FnScope ["words", "rows", "at", "row"] ["words", "rows"] (defScope s_wrong_standing) := ⟨rfl, rfl, rfl, by decide +kernel, rfl, by decide +kernel, by decide +kernel⟩
theorem nv_sc_wrong_standing : NmOk ["words", "rows", "at", "row"] (defScope s_wrong_standing) 4 := ⟨by decide +kernel⟩
/-! ### rows -/
abbrev Row := Int × Int × List Int
def rowT (r : Row) : D := .tup [.int r.1, .int r.2.1, .tup (r.2.2.map D.int)]
def rowL (r : Row) : D := .lst [.int r.1, .int r.2.1, .lst (r.2.2.map D.int)]
def rowOk (s m : Nat) (r : Row) : Prop := (-3 ≤ r.1 ∧ r.1 ≤ 3) ∧ (1 ≤ r.2.1 ∧ r.2.1 ≤ 12) ∧ r.2.2.length = s ∧ ∀ x ∈ r.2.2, 0 ≤ x ∧ x < m
def nextsB (c : D) (s m : Int) : Bool := match c with
  | .tup xs => (decide (s ≤ (xs.length : Int)) && decide ((xs.length : Int) ≤ s)) && (xs.map fun x => inB x 0 (m - 1)).all id
  | _ => false
def standB (d : D) (s m : Int) : Bool := match d with
  | .tup [a, b, c] => (inB a (-3) 3 && inB b 1 12) && nextsB c s m
  | _ => false
theorem inB_int {d : D} {a b : Int} (h : inB d a b = true) : ∃ i, d = .int i ∧ a ≤ i ∧ i ≤ b := by
  cases d <;> first | exact Bool.noConfusion h | skip
  rename_i i
  have h : (decide (a ≤ i) && decide (i ≤ b)) = true := h
  simp at h
  exact ⟨i, rfl, h.1, h.2⟩
theorem ints_of {xs : List D} {a b : Int} (h : ∀ x ∈ xs, inB x a b = true) : ∃ ns : List Int, xs = ns.map D.int ∧ ∀ n ∈ ns, a ≤ n ∧ n ≤ b := by
  induction xs with
  | nil => exact ⟨[], rfl, fun n h => by simp at h⟩
  | cons x xs ih =>
    obtain ⟨ns, e, hn⟩ := ih fun y hy => h y (List.mem_cons_of_mem _ hy)
    obtain ⟨i, ei, h1, h2⟩ := inB_int (h x List.mem_cons_self)
    refine ⟨i :: ns, by rw [e, ei]; rfl, fun n hm => ?_⟩
    rcases List.mem_cons.mp hm with z | z
    · rw [z]; exact ⟨h1, h2⟩
    · exact hn n z
theorem standB_row {d : D} {s m : Nat} (h : standB d (s : Int) (m : Int) = true) : ∃ r, d = rowT r ∧ rowOk s m r := by
  unfold standB at h
  split at h
  · rename_i a b c
    simp only [Bool.and_eq_true] at h
    obtain ⟨⟨h1, h2⟩, h3⟩ := h
    obtain ⟨i, rfl, i1, i2⟩ := inB_int h1
    obtain ⟨j, rfl, j1, j2⟩ := inB_int h2
    unfold nextsB at h3
    split at h3
    · rename_i xs
      simp only [Bool.and_eq_true, decide_eq_true_eq, List.all_map, List.all_eq_true, Function.comp] at h3
      obtain ⟨⟨l1, l2⟩, hx⟩ := h3
      obtain ⟨ns, rfl, hn⟩ := ints_of fun x hx' => hx x hx'
      refine ⟨(i, j, ns), rfl, ⟨i1, i2⟩, ⟨j1, j2⟩, ?_, fun n hm => ?_⟩
      · rw [List.length_map] at l1 l2
        show ns.length = s
        omega
      · have := hn n hm
        omega
    · exact Bool.noConfusion h3
  · exact Bool.noConfusion h
theorem inB_of {i a b : Int} (h1 : a ≤ i) (h2 : i ≤ b) : inB (.int i) a b = true := by
  show (decide (a ≤ i) && decide (i ≤ b)) = true
  simp [h1, h2]
theorem standB_of {s m : Nat} {r : Row} (h : rowOk s m r) : standB (rowT r) (s : Int) (m : Int) = true := by
  obtain ⟨h1, h2, h3, h4⟩ := h
  show ((inB (.int r.1) (-3) 3 && inB (.int r.2.1) 1 12) && nextsB (.tup (r.2.2.map D.int)) s m) = true
  rw [inB_of h1.1 h1.2, inB_of h2.1 h2.2]
  unfold nextsB
  simp only [List.length_map, h3, Bool.true_and, Int.le_refl, decide_true, List.all_map, List.all_eq_true, Function.comp]
  intro x hx
  have := h4 x hx
  exact inB_of this.1 (by omega)
/-! ### is_standing -/
def fs_is_standing : FS := fun ds rt _ => ∃ d s m, ds = [d, .int s, .int m] ∧ okX d ∧ rt (.bl (standB d s m))
theorem ok_is_standing {f : Addr} {fd : FuncData} (nb : NB mg) (d1 : Df P w K mg base cls "is_tuple" 1 ["thing", "least", "most"] fs_is_tuple) (d2 : Df P w K mg base cls "in_bounds" 2 ["thing", "least", "most"] fs_in_bounds) (F : Fun K "is_standing" "is_standing" s_is_standing f fd) :
    FnOk P w K mg base (L2N.CX P w) 3 f fd ["row", "signs", "many"] (spOf cls fs_is_standing) := by
  have hV := nv_sc_is_standing
  refine def_ok F sc_is_standing (fun ds rt ex h => ?_) (fun cdv A outer s H E W R ds rt ex hr h => ?_)
  · obtain ⟨d, _, _, rfl, _⟩ := h
    rfl
  · obtain ⟨d, s', m, rfl, hd, k⟩ := h
    have hN := sc_is_standing.nd
    refine wss_cons (ws_if (wt_not (wt_val (we_call d1 (hr.mono (by decide)) ?_))))
    repeat walk_at "v"
    refine ⟨d, _, _, rfl, okX_dat hd, _, rfl, fun e => ?_, fun e => ?_⟩
    · refine wss_one (ws_ret ?_)
      repeat walk_at "v"
      have : standB d s' m = false := by
        unfold standB
        split
        · exact Bool.noConfusion (show (!tupB (.tup [_, _, _]) 3 3) = true from e)
        · rfl
      rw [this] at k
      exact k
    · have : ∃ a b c, d = .tup [a, b, c] := by
        cases d <;> first | exact Bool.noConfusion e | skip
        rename_i xs
        have e : (decide ((3 : Int) ≤ (xs.length : Int)) && decide ((xs.length : Int) ≤ 3)) = true := by simpa [tupB] using e
        simp at e
        match xs, e with
        | [a, b, c], _ => exact ⟨a, b, c, rfl⟩
        | [], e => simp at e
        | [_], e => simp at e
        | [_, _], e => simp at e
        | _ :: _ :: _ :: _ :: _, e => simp at e; omega
      obtain ⟨a, b, cc, rfl⟩ := this
      obtain ⟨hlen, hx⟩ := okX_seq (.inr rfl) hd
      have oa := hx a (by simp)
      have ob := hx b (by simp)
      have oc := hx cc (by simp)
      refine wss_nil (wss_cons (ws_asg ?_))
      repeat walk_at "v"
      refine wg_tup rfl ⟨_, rfl, rfl, wg_name 3 hN rfl (wg_name 4 hN rfl (wg_name 5 hN rfl ?_))⟩
      have sb : standB (.tup [a, b, cc]) s' m = ((inB a (-3) 3 && inB b 1 12) && nextsB cc s' m) := rfl
      rw [sb] at k
      refine wss_cons (ws_if (wt_wp (wp_or (wt_not (wt_val (we_call d2 (hr.mono (by decide)) ?_))))))
      repeat walk_at "v"
      refine ⟨_, rfl, ?_⟩
      repeat walk_at "v"
      refine ⟨a, _, _, rfl, okX_dat oa, _, rfl, fun e1 => ?_, fun e1 => ?_⟩
      · refine ⟨fun _ => wss_one (ws_ret ?_), fun z => Bool.noConfusion z⟩
        repeat walk_at "v"
        have e1 : inB a (-3) 3 = false := by simpa using e1
        rw [e1] at k
        exact k
      · have e1 : inB a (-3) 3 = true := by simpa using e1
        rw [e1] at k
        refine wp_or1 (wt_not (wt_val (we_call d2 (hr.mono (by decide)) ?_)))
        repeat walk_at "v"
        refine ⟨b, _, _, rfl, okX_dat ob, _, rfl, fun e2 => ?_, fun e2 => ?_⟩
        · refine wss_one (ws_ret ?_)
          repeat walk_at "v"
          have e2 : inB b 1 12 = false := by simpa using e2
          rw [e2] at k
          exact k
        · have e2 : inB b 1 12 = true := by simpa using e2
          rw [e2] at k
          refine wss_nil (wss_one (ws_ret (we_and (we_call d1 (hr.mono (by decide)) ?_))))
          repeat walk_at "v"
          refine ⟨cc, _, _, rfl, okX_dat oc, _, rfl, fun e3 => ?_, fun e3 => ?_⟩
          · cases cc <;> first | exact Bool.noConfusion e3 | skip
            rename_i xs
            obtain ⟨hl, hxs⟩ := okX_seq (.inr rfl) oc
            have e3 : (decide (s' ≤ (xs.length : Int)) && decide ((xs.length : Int) ≤ s')) = true := e3
            refine we_one (we_all nb (we_lc 6 hN (LC.map (wi_tup ?_))))
            repeat walk_at "v"
            refine ⟨xs, rfl, hl, fun i x y => y = .bl (inB x 0 (m - 1)), fun i x hi => ⟨_, rfl, fun s0 H0 C cl fp => ?_⟩, fun acc q1 q2 => ?_⟩
            · refine we_call d2 (hr.mono (by decide)) ?_
              repeat walk_at "v"
              exact ⟨_, _, rfl, rfl, x, _, _, rfl, okX_dat (hxs x (List.mem_of_getElem? hi)), rfl⟩
            · refine ⟨xs.map fun x => inB x 0 (m - 1), by rw [acc_map q1 q2, List.map_map]; rfl, ?_⟩
              unfold nextsB at k
              simp only [e3, Bool.true_and] at k
              exact k
          · have : nextsB cc s' m = false := by
              unfold nextsB
              split
              · rename_i xs
                have e3 : (decide (s' ≤ (xs.length : Int)) && decide ((xs.length : Int) ≤ s')) = false := e3
                rw [e3]
                rfl
              · rfl
            rw [this] at k
            exact k
end
section
set_option maxHeartbeats 4000000
open PySem PySem.Spec PyProof.Rows L2 Vl
variable {cls : Nat → Addr} {P : Program} {w : World} {K : PySem.W.Frag} {mg : Str → Option Value} {base : Heap}
/-! ### is_rest -/
def restR (r : Row) : Bool := decide (r.1 = 0) && decide (r.2.2[0]? = some 0)
def fs_is_rest : FS := fun ds rt _ => ∃ r : Row, ds = [rowT r] ∧ 1 ≤ r.2.2.length ∧ rt (.bl (restR r))
theorem eq_int {i j : Int} {P : D → Prop} (h : P (.bl (decide (i = j)))) : FEq (.int i) (.int j) P := ⟨.int i, .int j, rfl, rfl, rfl, by
  have e : (decide (V.int i = V.int j)) = decide (i = j) := by
    by_cases c : i = j
    · subst c; simp
    · rw [decide_eq_false c, decide_eq_false]
      intro z
      cases z
      exact c rfl
  rw [e]
  exact h⟩
theorem ok_is_rest {f : Addr} {fd : FuncData} (F : Fun K "is_rest" "is_rest" s_is_rest f fd) : FnOk P w K mg base (L2N.CX P w) 1 f fd ["row"] (spOf cls fs_is_rest) := by
  have hV := nv_sc_is_rest
  refine def_ok F sc_is_rest (fun ds rt ex h => ?_) (fun cdv A outer s H E W R ds rt ex hr h => ?_)
  · obtain ⟨r, rfl, _⟩ := h
    rfl
  · obtain ⟨⟨a, b, ns⟩, rfl, hl, k⟩ := h
    match ns, hl with
    | n :: ns, _ =>
      refine wss_one (ws_ret (we_and (we_eq (we_ix ?_))))
      repeat walk_at "v"
      refine ⟨_, _, rfl, item_tup (i := 0) rfl, ?_⟩
      repeat walk_at "v"
      refine eq_int ⟨_, rfl, fun e => ?_, fun e => ?_⟩
      · refine we_one (we_eq (we_ix (we_ix ?_)))
        repeat walk_at "v"
        refine ⟨_, _, rfl, item_tup (i := 2) rfl, ?_⟩
        repeat walk_at "v"
        refine ⟨_, _, rfl, item_tup (i := 0) rfl, ?_⟩
        repeat walk_at "v"
        refine eq_int ?_
        have : restR (a, b, n :: ns) = decide (n = 0) := by
          unfold restR
          simp only [e, Bool.true_and, List.getElem?_cons_zero, Option.some.injEq]
        rw [this] at k
        exact k
      · have : restR (a, b, n :: ns) = false := by
          unfold restR
          simp only [e, Bool.false_and]
        rw [this] at k
        exact k
/-! ### wrong_standing -/
/-- is the row wrong at its place? s signs, m rows -/
def badAt (s m : Nat) (i : Nat) (d : D) : Bool := !standB d s m || (i == 0 && (match d with
  | .tup [.int a, _, .tup (.int n :: _)] => !(decide (a = 0) && decide (n = 0))
  | _ => true))
def wrongD (s : Nat) (d : D) : D := match d with
  | .tup xs => if 1 ≤ xs.length ∧ xs.length ≤ 6 then (match xs.zipIdx.findIdx? (fun p => badAt s xs.length p.2 p.1) with | some i => .int (i : Nat) | none => .non) else .int (-1)
  | _ => .int (-1)
theorem wrongD_tup {s : Nat} {xs : List D} : wrongD s (.tup xs) = if 1 ≤ xs.length ∧ xs.length ≤ 6 then (match xs.zipIdx.findIdx? (fun p => badAt s xs.length p.2 p.1) with | some i => .int (i : Nat) | none => .non) else .int (-1) := rfl
def fs_wrong : FS := fun ds rt _ => ∃ z d, ds = [.str z, d] ∧ z.length ≤ 1000 ∧ okX d ∧ rt (wrongD (z.length + 1) d)
theorem zip_at {xs : List D} {i : Nat} {p : D × Nat} (h : xs.zipIdx[i]? = some p) : xs[i]? = some p.1 ∧ p.2 = i := by
  rw [List.getElem?_zipIdx] at h
  cases e : xs[i]? with
  | none => rw [e] at h; cases h
  | some x =>
    rw [e] at h
    cases h
    exact ⟨rfl, by simp⟩
theorem ok_wrong {f : Addr} {fd : FuncData} {t : Tok} (nb : NB mg) (hS : mg "MOST_STANDINGS" = some (.int 6 t)) (d1 : Df P w K mg base cls "is_tuple" 1 ["thing", "least", "most"] fs_is_tuple) (d2 : Df P w K mg base cls "is_standing" 3 ["row", "signs", "many"] fs_is_standing)
    (d3 : Df P w K mg base cls "is_rest" 1 ["row"] fs_is_rest) (F : Fun K "wrong_standing" "wrong_standing" s_wrong_standing f fd) : FnOk P w K mg base (L2N.CX P w) 4 f fd ["words", "rows"] (spOf cls fs_wrong) := by
  have hV := nv_sc_wrong_standing
  refine def_ok F sc_wrong_standing (fun ds rt ex h => ?_) (fun cdv A outer s H E W R ds rt ex hr h => ?_)
  · obtain ⟨z, d, rfl, _⟩ := h
    rfl
  · obtain ⟨z, d, rfl, hz, hd, k⟩ := h
    have hN := sc_wrong_standing.nd
    refine wss_cons (ws_if (wt_not (wt_val (we_call d1 (hr.mono (by decide)) ?_))))
    repeat walk_at "v"
    refine we_gint hS ?_
    refine ⟨d, _, _, rfl, okX_dat hd, _, rfl, fun e => ?_, fun e => ?_⟩
    · refine wss_one (ws_ret ?_)
      repeat walk_at "v"
      refine ⟨_, rfl, ?_⟩
      have : wrongD (z.length + 1) d = .int (-1) := by
        cases d <;> first | rfl | skip
        rename_i xs
        have e : (!(decide ((1 : Int) ≤ (xs.length : Int)) && decide ((xs.length : Int) ≤ 6))) = true := e
        rw [wrongD_tup, if_neg]
        intro hc
        simp at e
        omega
      rw [this] at k
      exact k
    · cases d <;> first | exact Bool.noConfusion e | skip
      rename_i xs
      have e : (!(decide ((1 : Int) ≤ (xs.length : Int)) && decide ((xs.length : Int) ≤ 6))) = false := e
      simp at e
      obtain ⟨l1, l2⟩ : 1 ≤ xs.length ∧ xs.length ≤ 6 := ⟨by omega, by omega⟩
      rw [wrongD_tup, if_pos ⟨l1, l2⟩] at k
      obtain ⟨_, hx⟩ := okX_seq (.inr rfl) hd
      refine wss_nil (wss_cons (ws_for rfl (wi_enumT (nb _ (by decide)) ?_)))
      repeat walk_at "v"
      refine ⟨xs, rfl, fun i ρ' => (∀ (j : Nat) x, j < i → xs[j]? = some x → badAt (z.length + 1) xs.length j x = false) ∧ ∃ o1 o2, ρ' = [some (.val (.str z)), some (.val (.tup xs)), o1, o2], ⟨fun j n h => absurd h (Nat.not_lt_zero _), none, none, rfl⟩, fun i d ρ' hi hI => ?_, fun ρ' hI => ?_⟩
      · obtain ⟨x, hxi, rfl⟩ := enum_get hi
        obtain ⟨hI, o1, o2, rfl⟩ := hI
        have ok := hx x (List.mem_of_getElem? hxi)
        have bad : badAt (z.length + 1) xs.length i x = true → rt (.int (i : Nat)) := fun b => by
          have fi : xs.zipIdx.findIdx? (fun p => badAt (z.length + 1) xs.length p.2 p.1) = some i := find_some (x := (x, i)) (fun j p hj hp => by
            obtain ⟨h1, h2⟩ := zip_at hp
            rw [h2]
            exact hI j _ hj h1) (by rw [List.getElem?_zipIdx, hxi]; simp) b
          rw [fi] at k
          exact k
        have good : badAt (z.length + 1) xs.length i x = false → ∀ (j : Nat) y, j < i + 1 → xs[j]? = some y → badAt (z.length + 1) xs.length j y = false := fun b j y hj hy => by
          by_cases hji : j < i
          · exact hI j y hji hy
          · have : j = i := by omega
            subst this
            rw [hxi] at hy
            cases hy
            exact b
        refine wg_tup rfl ⟨_, rfl, rfl, wg_name 2 hN rfl (wg_name 3 hN rfl ?_)⟩
        refine wss_one (ws_if (wt_wp (wp_or (wt_not (wt_val (we_call d2 (hr.mono (by decide)) ?_))))))
        walk_at "v"
        refine we_add ?_
        repeat walk_at "v"
        refine ⟨z.length, len_str (by omega), ?_⟩
        repeat walk_at "v"
        refine ⟨_, _, rfl, rfl, ?_⟩
        repeat walk_at "v"
        refine ⟨xs.length, rfl, x, _, _, rfl, ok, _, rfl, fun e1 => ?_, fun e1 => ?_⟩
        · refine ⟨fun _ => wss_one (ws_ret ?_), fun z => Bool.noConfusion z⟩
          repeat walk_at "v"
          refine bad ?_
          unfold badAt
          have e1 : standB x ((z.length + 1 : Nat) : Int) (xs.length : Int) = false := by
            have : ((z.length : Int) + 1) = ((z.length + 1 : Nat) : Int) := by omega
            rw [← this]
            simpa using e1
          rw [e1]
          rfl
        · have e1 : standB x ((z.length + 1 : Nat) : Int) (xs.length : Int) = true := by
            have : ((z.length : Int) + 1) = ((z.length + 1 : Nat) : Int) := by omega
            rw [← this]
            simpa using e1
          obtain ⟨⟨a, b, ns⟩, rfl, ro⟩ := standB_row e1
          have nl : ns.length = z.length + 1 := ro.2.2.1
          refine wp_or1 (wt_wp (wp_and (wt_eq ?_)))
          repeat walk_at "v"
          refine eq_int ⟨_, rfl, fun e2 => ?_, fun e2 => ?_⟩
          · have i0 : i = 0 := by
              have := of_decide_eq_true e2
              omega
            refine wp_and1 (wt_not (wt_val (we_call d3 (hr.mono (by decide)) ?_)))
            repeat walk_at "v"
            have bd : badAt (z.length + 1) xs.length i (rowT (a, b, ns)) = !restR (a, b, ns) := by
              unfold badAt
              rw [e1, i0]
              match ns, nl with
              | n :: ns, _ => simp [rowT, restR]
            refine ⟨(a, b, ns), rfl, by show 1 ≤ ns.length; omega, _, rfl, fun e3 => ?_, fun e3 => ?_⟩
            · refine wss_one (ws_ret ?_)
              repeat walk_at "v"
              exact bad (by rw [bd]; exact e3)
            · exact wss_nil ⟨good (by rw [bd]; exact e3), _, _, rfl⟩
          · refine ⟨fun z => Bool.noConfusion z, fun _ => wss_nil ⟨good ?_, _, _, rfl⟩⟩
            have i0 : (i == 0) = false := by
              have := of_decide_eq_false e2
              simp
              omega
            unfold badAt
            rw [e1, i0]
            rfl
      · obtain ⟨hI, o1, o2, rfl⟩ := hI
        refine wss_one (ws_ret ?_)
        repeat walk_at "v"
        have fi : xs.zipIdx.findIdx? (fun p => badAt (z.length + 1) xs.length p.2 p.1) = none := find_none fun j p hp => by
          obtain ⟨h1, h2⟩ := zip_at hp
          rw [h2]
          refine hI j _ ?_ h1
          rw [enumD_length]
          exact (List.getElem?_eq_some_iff.mp h1).1
        rw [fi] at k
        exact k
end
section
set_option maxHeartbeats 4000000
open PySem PySem.Spec PyProof.Rows L2 Vl
variable {cls : Nat → Addr} {P : Program} {w : World} {K : PySem.W.Frag} {mg : Str → Option Value} {base : Heap}
/-- what the text says of the class -/
structure DrC (K : PySem.W.Frag) (C : Addr) : Prop where
  cl : Cls K C
  nW : NoAttr K C "words"
  nS : NoAttr K C "standings"
/-! ### check_standing -/
/-! ### __len__, [ ] -/
/-! ### the call, walk -/
end
section
set_option maxHeartbeats 4000000
open PySem PySem.Spec PyProof.Rows L2 Vl
variable {cls : Nat → Addr} {P : Program} {w : World} {K : PySem.W.Frag} {mg : Str → Option Value} {base : Heap}
/-! ### is_steady -/
/-! ### __init__ -/
theorem words_str {d : D} (h : wordsB d = true) : ∃ z : Str, d = .str z ∧ 1 ≤ z.length ∧ z.length ≤ 4 := by
  cases d <;> first | exact Bool.noConfusion h | skip
  rename_i z
  have h : (decide (1 ≤ z.length ∧ z.length ≤ 4) && ((offAt z SMALL).isNone && riseB z)) = true := h
  simp only [Bool.and_eq_true, decide_eq_true_eq] at h
  exact ⟨z, rfl, h.1.1, h.1.2⟩
/-! ### __eq__ -/
def rowsEq (x y : List Row) : Bool := eqB (.tup (x.map rowT)) (.tup (y.map rowT))
theorem eq_str {i j : Str} {P : D → Prop} (h : P (.bl (decide (i = j)))) : FEq (.str i) (.str j) P := ⟨.str i, .str j, rfl, rfl, rfl, by
  have e : (decide (V.str i = V.str j)) = decide (i = j) := by
    by_cases c : i = j
    · subst c; simp
    · rw [decide_eq_false c, decide_eq_false]
      intro z
      cases z
      exact c rfl
  rw [e]
  exact h⟩
theorem tag_plain {d : D} (h : dat d = true) (h2 : ∀ k gs, d ≠ .obj k gs) : ∃ n ∈ ["NoneType", "bool", "int", "str", "list", "tuple"], tagV cls d = some (.type n) := by
  cases d <;> first | exact Bool.noConfusion h | exact absurd rfl (h2 _ _) | skip
  · exact ⟨"NoneType", by decide, rfl⟩
  · exact ⟨"bool", by decide, rfl⟩
  · exact ⟨"int", by decide, rfl⟩
  · exact ⟨"str", by decide, rfl⟩
  · exact ⟨"list", by decide, rfl⟩
  · exact ⟨"tuple", by decide, rfl⟩
end
section
set_option maxHeartbeats 4000000
open PySem PySem.Spec PyProof.Rows L2 Vl
variable {cls : Nat → Addr} {P : Program} {w : World} {K : PySem.W.Frag} {mg : Str → Option Value} {base : Heap}
abbrev s_mix : Stmt := top 57
abbrev s_pick : Stmt := top 58
theorem sc_mix : FnScope ["_law_cell", "_law_turn", "_law_one", "_law_two"] ["_law_cell", "_law_turn"] (defScope s_mix) := ⟨rfl, rfl, rfl, by decide +kernel, rfl, by decide +kernel, by decide +kernel⟩
theorem nv_sc_mix : NmOk ["_law_cell", "_law_turn", "_law_one", "_law_two"] (defScope s_mix) 4 := ⟨by decide +kernel⟩
theorem sc_pick : FnScope ["_law_draw_here", "_law_many", "_law_cell", "_law_digit", "_law_found"] ["_law_draw_here", "_law_many"] (defScope s_pick) := ⟨rfl, rfl, rfl, by decide +kernel, rfl, by decide +kernel, by decide +kernel⟩
def fs_mix : FS := fun ds rt _ => ∃ a b : Int, ds = [.int a, .int b] ∧ ∀ r : Int, rt (.int r)
theorem mul_l {i j : Int} (h1 : -1000000007 ≤ i) (h2 : i ≤ 1000000007000) : CMul i j := .inl ⟨by omega, by omega⟩
theorem mul_r {i j : Int} (h1 : -1000000007 ≤ j) (h2 : j ≤ 1000000007000) : CMul i j := .inr ⟨by omega, by omega⟩
theorem fmod_lo (i : Int) {j : Int} (h : 0 < j) : 0 ≤ i.fmod j := by rw [Int.fmod_eq_emod_of_nonneg i (by omega)]; exact Int.emod_nonneg _ (by omega)
theorem fmod_hi (i : Int) {j : Int} (h : 0 < j) : i.fmod j < j := by rw [Int.fmod_eq_emod_of_nonneg i (by omega)]; exact Int.emod_lt_of_pos _ h
theorem ok_mix {f : Addr} {fd : FuncData} (nb : NB mg) (F : Fun K "_law_mix" "_law_mix" s_mix f fd) : FnOk P w K mg base (L2N.CX P w) 1 f fd ["_law_cell", "_law_turn"] (spOf cls fs_mix) := by
  have hV := nv_sc_mix
  refine def_ok F sc_mix (fun ds rt ex h => ?_) (fun cdv A outer s H E W R ds rt ex hr h => ?_)
  · obtain ⟨_, _, rfl, _⟩ := h
    rfl
  · obtain ⟨a, b, rfl, k⟩ := h
    have hN := sc_mix.nd
    refine wss_cons (ws_set 2 hN rfl (we_mod (we_int1 nb (we_add (we_add (we_mul ?_))))))
    repeat walk_at "v"
    refine ⟨_, _, rfl, rfl, mul_r (by decide) (by decide), ?_⟩
    repeat walk_at "v"
    refine ⟨_, _, rfl, rfl, mul_r (by decide) (by decide), _, _, rfl, rfl, ?_⟩
    repeat walk_at "v"
    refine ⟨_, _, rfl, rfl, _, rfl, ?_⟩
    repeat walk_at "v"
    refine ⟨_, _, rfl, rfl, by decide, ?_⟩
    have o1 := fmod_lo (a * 48271 + b * 69621 + 12345) (j := 2147483647) (by decide)
    have o2 := fmod_hi (a * 48271 + b * 69621 + 12345) (j := 2147483647) (by decide)
    generalize (a * 48271 + b * 69621 + 12345).fmod 2147483647 = one at o1 o2 ⊢
    refine wss_cons (ws_set 3 hN rfl (we_mod (we_int1 nb (we_add (we_add (we_mul ?_))))))
    repeat walk_at "v"
    refine ⟨_, _, rfl, rfl, mul_l (by omega) (by omega), ?_⟩
    repeat walk_at "v"
    refine ⟨_, _, rfl, rfl, mul_r (by decide) (by decide), _, _, rfl, rfl, ?_⟩
    repeat walk_at "v"
    refine ⟨_, _, rfl, rfl, _, rfl, ?_⟩
    repeat walk_at "v"
    refine ⟨_, _, rfl, rfl, by decide, ?_⟩
    have t1 := fmod_lo (one * one + b * 7919 + a) (j := 998244353) (by decide)
    have t2 := fmod_hi (one * one + b * 7919 + a) (j := 998244353) (by decide)
    generalize (one * one + b * 7919 + a).fmod 998244353 = two at t1 t2 ⊢
    refine wss_cons (ws_set 3 hN rfl (we_mod (we_int1 nb (we_add (we_mul ?_)))))
    repeat walk_at "v"
    refine ⟨_, _, rfl, rfl, mul_l (by omega) (by omega), ?_⟩
    repeat walk_at "v"
    refine ⟨_, _, rfl, rfl, _, rfl, ?_⟩
    repeat walk_at "v"
    refine ⟨_, _, rfl, rfl, by decide, ?_⟩
    refine wss_one (ws_ret (we_fdiv ?_))
    repeat walk_at "v"
    exact ⟨_, _, rfl, rfl, ⟨by decide, by decide⟩, k _⟩
end
section
set_option maxHeartbeats 8000000
open PySem PySem.Spec PyProof.Rows L2 Vl
variable {cls : Nat → Addr} {P : Program} {w : World} {K : PySem.W.Frag} {mg : Str → Option Value} {base : Heap}
def ifBody : Stmt → List Stmt
  | .If _ a _ _ => a
  | _ => []
instance : Inhabited Stmt := ⟨.Pass ⟨0, 0, 0, 0⟩⟩
theorem ok_pick {f : Addr} {fd : FuncData} (nb : NB mg) (d1 : Df P w K mg base cls "_law_mix" 1 ["_law_cell", "_law_turn"] fs_mix) (F : Fun K "_law_pick" "_law_pick" s_pick f fd) :
    FnOk P w K mg base (L2N.CX P w) 2 f fd ["_law_draw_here", "_law_many"] (spOf cls fs_pick) := by
  refine draw_ok F sc_pick fun cdv A outer s H E W hk js n hr hlim l5 z0 => ?_
  have hN := sc_pick.nd
  match js, l5, z0 with
  | [i1, i2, i3, i4, i5], _, z0 =>
  have p1 : 0 ≤ i1 := z0 i1 rfl
  refine wd_if (wt_lt ?_)
  repeat walk_at "v"
  refine ⟨_, _, rfl, rfl, _, rfl, fun e => ?_, fun e => ?_⟩
  · refine wd_ws (ws_ret ?_)
    repeat walk_at "v"
    exact ⟨0, rfl, by decide, .inr ⟨of_decide_eq_true e, rfl⟩⟩
  have hn : 2 ≤ n := by
    have := of_decide_eq_false e
    omega
  have md : ∀ i : Int, ∃ r : Int, D.int (i.fmod n) = .int r ∧ 0 ≤ r ∧ (r < n ∨ (n < 2 ∧ r = 0)) := fun i => ⟨_, rfl, fmod_lo i (by omega), .inl (fmod_hi i (by omega))⟩
  have tail : ∀ (j1 j2 j3 j4 j5 : Int) (o : Option Sv), (o = none ∨ ∃ x, o = some (.val (.int x))) → 0 ≤ j1 →
      WD (cyOf P w K mg base ["_law_draw_here", "_law_many", "_law_cell", "_law_digit", "_law_found"] "_law_pick" (defScope s_pick) f cdv A outer s H E W (fun _ => False)) hk [j1, j2, j3, j4, j5] ((defBody s_pick).drop 2)
        [some (.val (.own 3)), some (.val (.int n)), o, none, none] (fun _ _ => False) (fun _ d => ∃ r : Int, d = .int r ∧ 0 ≤ r ∧ (r < n ∨ (n < 2 ∧ r = 0))) := by
    intro j1 j2 j3 j4 j5 o ho q1
    have fl : ∀ o' : Option Sv, (o' = none ∨ ∃ x, o' = some (.val (.int x))) → flatSv o' = true := fun o' h => by
      rcases h with h | ⟨x, h⟩ <;> subst h <;> rfl
    refine wd_if (wt_gt (we_dix (i := 0) rfl rfl ?_))
    repeat walk_at "v"
    refine ⟨1, j2, rfl, rfl, ?_⟩
    repeat walk_at "v"
    refine ⟨_, _, rfl, rfl, _, rfl, fun e1 => ?_, fun e1 => ?_⟩
    · refine wd_ws (ws_set 3 hN rfl (we_mod (we_int1 nb (we_dix (i := 0) rfl rfl ?_))))
      repeat walk_at "v"
      refine ⟨1, j2, rfl, rfl, _, rfl, ?_⟩
      repeat walk_at "v"
      refine ⟨_, _, rfl, rfl, by omega, ?_⟩
      refine wd_set 0 rfl rfl (we_fdiv (we_dix (i := 0) rfl rfl ?_)) (hfl := by
        show ([some (.val (.own 3)), some (.val (.int n)), o, some (.val (.int _)), none] : Rho).all flatSv = true
        rcases ho with rfl | ⟨x, rfl⟩ <;> rfl)
      repeat walk_at "v"
      refine ⟨1, j2, rfl, rfl, ?_⟩
      repeat walk_at "v"
      refine ⟨_, _, rfl, rfl, ⟨by omega, by omega⟩, _, rfl, ?_⟩
      repeat walk_at "v"
      refine ⟨1, rfl, by decide, fun z => absurd z (by decide), rfl, fun z e => by cases e; exact q1, ?_⟩
      refine wd_ws (ws_ret ?_)
      repeat walk_at "v"
      exact md j2
    · refine wd_nil ?_
      refine wd_if (wt_lt (we_dix (i := 0) rfl rfl ?_))
      repeat walk_at "v"
      refine ⟨0, j1, rfl, rfl, ?_⟩
      refine we_dlen (i := 0) nb rfl rfl ?_
      repeat walk_at "v"
      refine ⟨rfl, _, _, rfl, rfl, _, rfl, fun e2 => ?_, fun e2 => ?_⟩
      · have lt : j1 < (W.ns.length : Int) := of_decide_eq_true e2
        have nsk := List.getElem?_eq_getElem (show j1.toNat < W.ns.length by omega)
        refine wd_ws (ws_set 2 hN rfl (we_dcell (i := 0) rfl rfl ?_))
        repeat walk_at "v"
        refine ⟨rfl, we_dix (i := 0) rfl rfl ?_⟩
        repeat walk_at "v"
        refine ⟨0, j1, rfl, rfl, j1.toNat, _, by rw [Int.toNat_of_nonneg q1], nsk, ?_⟩
        refine wd_set 0 rfl rfl (we_add (we_dix (i := 0) rfl rfl ?_))
        repeat walk_at "v"
        refine ⟨2, j3, rfl, rfl, ?_⟩
        repeat walk_at "v"
        refine ⟨_, _, rfl, rfl, _, rfl, ?_⟩
        repeat walk_at "v"
        refine ⟨2, rfl, by decide, fun z => absurd z (by decide), rfl, fun z e => by cases e; exact q1, ?_⟩
        refine wd_ws (ws_set 4 hN rfl (we_mod (we_int1 nb (we_call d1 hr ?_))))
        refine we_add ?_
        repeat walk_at "v"
        refine we_dix (i := 0) rfl rfl ?_
        repeat walk_at "v"
        refine ⟨0, j1, rfl, rfl, _, _, rfl, rfl, mul_l (by decide) (by decide), _, _, rfl, rfl, ?_⟩
        refine we_dix (i := 0) rfl rfl ?_
        repeat walk_at "v"
        refine ⟨2, _, rfl, rfl, _, _, rfl, fun r => ⟨r, rfl, ?_⟩⟩
        repeat walk_at "v"
        refine ⟨_, _, rfl, rfl, by omega, ?_⟩
        refine wd_if (wt_eq (we_dix (i := 0) rfl rfl ?_))
        repeat walk_at "v"
        refine ⟨2, _, rfl, rfl, ?_⟩
        repeat walk_at "v"
        refine eq_int ⟨_, rfl, fun e3 => ?_, fun e3 => ?_⟩
        · refine wd_set 0 rfl rfl ?_
          repeat walk_at "v"
          refine ⟨_, rfl, ?_⟩
          repeat walk_at "v"
          refine ⟨2, rfl, by decide, fun z => absurd z (by decide), rfl, fun z e => by cases e; exact q1, ?_⟩
          refine wd_set 0 rfl rfl (we_add (we_dix (i := 0) rfl rfl ?_))
          repeat walk_at "v"
          refine ⟨0, j1, rfl, rfl, ?_⟩
          repeat walk_at "v"
          refine ⟨_, _, rfl, rfl, _, rfl, ?_⟩
          repeat walk_at "v"
          refine ⟨0, rfl, by decide, fun _ => by omega, rfl, fun z e => by cases e; exact q1, ?_⟩
          refine wd_nil (wd_ws (ws_ret ?_))
          repeat walk_at "v"
          exact md r
        · refine wd_nil (wd_ws (ws_ret ?_))
          repeat walk_at "v"
          exact md r
      · refine wd_nil ?_
        refine wd_set 0 rfl rfl (we_add (we_dix (i := 0) rfl rfl ?_)) (hfl := by
          show ([some (.val (.own 3)), some (.val (.int n)), o, none, none] : Rho).all flatSv = true
          rcases ho with rfl | ⟨x, rfl⟩ <;> rfl)
        repeat walk_at "v"
        refine ⟨3, j4, rfl, rfl, ?_⟩
        repeat walk_at "v"
        refine ⟨_, _, rfl, rfl, _, rfl, ?_⟩
        repeat walk_at "v"
        refine ⟨3, rfl, by decide, fun z => absurd z (by decide), rfl, fun z e => by cases e; exact q1, ?_⟩
        refine wd_ws (ws_ret (we_mod (we_int1 nb (we_call d1 hr ?_))))
        refine we_dix (i := 0) rfl rfl ?_
        repeat walk_at "v"
        refine ⟨4, _, rfl, rfl, ?_⟩
        refine we_add (we_dix (i := 0) rfl rfl ?_)
        repeat walk_at "v"
        refine ⟨3, _, rfl, rfl, ?_⟩
        repeat walk_at "v"
        refine ⟨_, _, rfl, rfl, _, _, rfl, fun r => ⟨r, rfl, ?_⟩⟩
        repeat walk_at "v"
        exact ⟨_, _, rfl, rfl, by omega, md r⟩
  refine wd_nil ?_
  have skip : ∀ js', js' = [i1, i2, i3, i4, i5] → WD (cyOf P w K mg base ["_law_draw_here", "_law_many", "_law_cell", "_law_digit", "_law_found"] "_law_pick" (defScope s_pick) f cdv A outer s H E W (fun _ => False)) hk js' ((defBody s_pick).drop 2)
        [some (.val (.own 3)), some (.val (.int n)), none, none, none] (fun _ _ => False) (fun _ d => ∃ r : Int, d = .int r ∧ 0 ≤ r ∧ (r < n ∨ (n < 2 ∧ r = 0))) := fun js' h => h ▸ tail i1 i2 i3 i4 i5 none (.inl rfl) p1
  refine wd_if (wt_wp (wp_and (wt_eq (we_dix (i := 0) rfl rfl ?_))))
  repeat walk_at "v"
  refine ⟨1, i2, rfl, rfl, ?_⟩
  repeat walk_at "v"
  refine eq_int ⟨_, rfl, fun e1 => ?_, fun e1 => ⟨fun z => Bool.noConfusion z, fun _ => wd_nil (skip _ rfl)⟩⟩
  refine wp_and (wt_lt (we_dix (i := 0) rfl rfl ?_))
  repeat walk_at "v"
  refine ⟨0, i1, rfl, rfl, ?_⟩
  refine we_dlen (i := 0) nb rfl rfl ?_
  repeat walk_at "v"
  refine ⟨rfl, _, _, rfl, rfl, _, rfl, fun e2 => ?_, fun e2 => ⟨fun z => Bool.noConfusion z, fun _ => wd_nil (skip _ rfl)⟩⟩
  have lt : i1 < (W.ns.length : Int) := of_decide_eq_true e2
  have nsk := List.getElem?_eq_getElem (show i1.toNat < W.ns.length by omega)
  refine wp_and1 (wt_eq (we_dix (i := 0) rfl rfl ?_))
  repeat walk_at "v"
  refine ⟨2, i3, rfl, rfl, ?_⟩
  repeat walk_at "v"
  refine eq_int ⟨_, rfl, fun e3 => ?_, fun e3 => wd_nil (skip _ rfl)⟩
  refine wd_ws (ws_set 2 hN rfl (we_dcell (i := 0) rfl rfl ?_))
  repeat walk_at "v"
  refine ⟨rfl, we_dix (i := 0) rfl rfl ?_⟩
  repeat walk_at "v"
  refine ⟨0, i1, rfl, rfl, i1.toNat, _, by rw [Int.toNat_of_nonneg p1], nsk, ?_⟩
  generalize W.ns[i1.toNat]'(by omega) = cell
  have big : ∀ js' ρ', js' = [i1, i2, i3, i4, i5] → ρ' = ([some (.val (.own 3)), some (.val (.int n)), some (.val (.int cell)), none, none] : Rho) → True := fun _ _ _ _ => trivial
  have no : WD (cyOf P w K mg base ["_law_draw_here", "_law_many", "_law_cell", "_law_digit", "_law_found"] "_law_pick" (defScope s_pick) f cdv A outer s H E W (fun _ => False)) hk [i1, i2, i3, i4, i5] ((defBody s_pick).drop 2)
        [some (.val (.own 3)), some (.val (.int n)), some (.val (.int cell)), none, none] (fun _ _ => False) (fun _ d => ∃ r : Int, d = .int r ∧ 0 ≤ r ∧ (r < n ∨ (n < 2 ∧ r = 0))) := tail i1 i2 i3 i4 i5 _ (.inr ⟨cell, rfl⟩) p1
  have yes : ∀ j2 : Int, WD (cyOf P w K mg base ["_law_draw_here", "_law_many", "_law_cell", "_law_digit", "_law_found"] "_law_pick" (defScope s_pick) f cdv A outer s H E W (fun _ => False)) hk [i1 + 1, j2, i3, i4, i5] ((defBody s_pick).drop 2)
        [some (.val (.own 3)), some (.val (.int n)), some (.val (.int cell)), none, none] (fun _ _ => False) (fun _ d => ∃ r : Int, d = .int r ∧ 0 ≤ r ∧ (r < n ∨ (n < 2 ∧ r = 0))) := fun j2 => tail (i1 + 1) j2 i3 i4 i5 _ (.inr ⟨cell, rfl⟩) (by omega)
  refine wd_if (wt_wp (wp_or (wt_ge ?_)))
  repeat walk_at "v"
  refine ⟨_, _, rfl, rfl, ⟨by decide, by decide, by decide⟩, ?_⟩
  have body : WD (cyOf P w K mg base ["_law_draw_here", "_law_many", "_law_cell", "_law_digit", "_law_found"] "_law_pick" (defScope s_pick) f cdv A outer s H E W (fun _ => False)) hk [i1, i2, i3, i4, i5] (ifBody (ifBody (defBody s_pick)[1]!)[1]!)
      [some (.val (.own 3)), some (.val (.int n)), some (.val (.int cell)), none, none] (fun js' ρ' => ∃ j2, js' = [i1 + 1, j2, i3, i4, i5] ∧ ρ' = [some (.val (.own 3)), some (.val (.int n)), some (.val (.int cell)), none, none]) (fun _ d => ∃ r : Int, d = .int r ∧ 0 ≤ r ∧ (r < n ∨ (n < 2 ∧ r = 0))) := by
    refine wd_set 0 rfl rfl (we_mod (we_int1 nb (we_abs nb ?_)))
    repeat walk_at "v"
    refine ⟨_, rfl, _, rfl, ?_⟩
    refine we_powW (we_pow ?_)
    repeat walk_at "v"
    refine ⟨_, _, rfl, rfl, ⟨by decide, by decide, by decide⟩, ?_⟩
    repeat walk_at "v"
    refine ⟨_, _, rfl, rfl, ⟨by decide, by decide +kernel⟩, _, _, rfl, rfl, by decide +kernel, _, rfl, ?_⟩
    repeat walk_at "v"
    refine ⟨1, rfl, by decide, fun z => absurd z (by decide), rfl, fun z e => by cases e; exact p1, ?_⟩
    refine wd_set 0 rfl rfl (we_add (we_dix (i := 0) rfl rfl ?_))
    repeat walk_at "v"
    refine ⟨0, i1, rfl, rfl, ?_⟩
    repeat walk_at "v"
    refine ⟨_, _, rfl, rfl, _, rfl, ?_⟩
    repeat walk_at "v"
    refine ⟨0, rfl, by decide, fun _ => by omega, rfl, fun z e => by cases e; exact p1, ?_⟩
    exact wd_nil ⟨_, rfl, rfl⟩
  have done : ∀ js' ρ', (∃ j2, js' = [i1 + 1, j2, i3, i4, i5] ∧ ρ' = ([some (.val (.own 3)), some (.val (.int n)), some (.val (.int cell)), none, none] : Rho)) → WD (cyOf P w K mg base ["_law_draw_here", "_law_many", "_law_cell", "_law_digit", "_law_found"] "_law_pick" (defScope s_pick) f cdv A outer s H E W (fun _ => False)) hk js' ((defBody s_pick).drop 2) ρ' (fun _ _ => False) (fun _ d => ∃ r : Int, d = .int r ∧ 0 ≤ r ∧ (r < n ∨ (n < 2 ∧ r = 0))) := fun js' ρ' ⟨j2, h1, h2⟩ => h1 ▸ h2 ▸ yes j2
  refine ⟨_, _, rfl, rfl, _, rfl, fun _ => ⟨fun _ => wd_mono body fun js' ρ' h => wd_nil (done js' ρ' h), fun z => Bool.noConfusion z⟩, fun _ => ?_⟩
  refine wp_or1 (wt_le ?_)
  repeat walk_at "v"
  refine ⟨_, _, rfl, rfl, ⟨by decide, by decide, by decide⟩, _, rfl, ?_⟩
  refine ⟨_, _, rfl, rfl, _, rfl, fun _ => wd_mono body fun js' ρ' h => wd_nil (done js' ρ' h), fun _ => wd_nil (wd_nil no)⟩
end
section
set_option maxHeartbeats 4000000
open PySem PySem.Spec PyProof.Rows L2 Vl
variable {cls : Nat → Addr} {P : Program} {w : World} {K : PySem.W.Frag} {mg : Str → Option Value} {base : Heap}
/-! ### _law_listed: its lists are new -/
/-! ### _law_handed -/
def smallRows (rows : List Row) : Prop := rows.length ≤ 1000 ∧ ∀ r ∈ rows, r.2.2.length ≤ 1000
theorem tupled_ints (ns : List Int) : (ns.map D.int).map tupled = ns.map D.int := by
  rw [List.map_map]
  apply List.map_congr_left
  intro n _
  exact remk_atom rfl
theorem tupled_rowL (r : Row) : tupled (rowL r) = rowT r := by
  unfold rowL rowT
  rw [tupled_lst]
  show D.tup [tupled (.int r.1), tupled (.int r.2.1), tupled (.lst _)] = _
  rw [tupled_lst, tupled_ints, show tupled (.int r.1) = .int r.1 from remk_atom rfl, show tupled (.int r.2.1) = .int r.2.1 from remk_atom rfl]
abbrev rowsL (rows : List Row) : D := .lst (rows.map rowL)
abbrev rowsT (rows : List Row) : D := .tup (rows.map rowT)
theorem tupled_rowsL (rows : List Row) : tupled (rowsL rows) = rowsT rows := by
  unfold rowsL rowsT
  rw [tupled_lst, List.map_map]
  congr 1
  apply List.map_congr_left
  intro r _
  exact tupled_rowL r
theorem okD_rowL {rows : List Row} (s : smallRows rows) : ∀ r ∈ rows, okD 2 (rowL r) := fun r hr => by
  refine .inr ⟨_, .inl rfl, by show 3 ≤ _; omega, fun x hx => ?_⟩
  simp only [List.mem_cons, List.not_mem_nil, or_false] at hx
  rcases hx with rfl | rfl | rfl
  · exact okD_atom rfl
  · exact okD_atom rfl
  · exact .inr ⟨_, .inl rfl, by rw [List.length_map]; have := s.2 r hr; omega, okD_ints⟩
theorem okD_rowsL {rows : List Row} (s : smallRows rows) : okD 3 (rowsL rows) := by
  refine .inr ⟨_, .inl rfl, by rw [List.length_map]; have := s.1; omega, fun x hx => ?_⟩
  obtain ⟨r, hr, rfl⟩ := List.mem_map.mp hx
  exact okD_rowL s r hr
end
section
set_option maxHeartbeats 8000000
open PySem PySem.Spec PyProof.Rows L2 Vl
variable {cls : Nat → Addr} {P : Program} {w : World} {K : PySem.W.Frag} {mg : Str → Option Value} {base : Heap}
def forBody : Stmt → List Stmt
  | .For _ _ b _ _ => b
  | _ => []
/-- rows of a drill as the law makes them -/
def madeRows (z : Str) (m : Nat) (rows : List Row) : Prop := rows.length = m ∧ (∀ r ∈ rows, rowOk (z.length + 1) m r) ∧ ∃ r, rows[0]? = some r ∧ r.1 = 0 ∧ r.2.2[0]? = some 0
end
section
set_option maxHeartbeats 8000000
open PySem PySem.Spec PyProof.Rows L2 Vl
variable {cls : Nat → Addr} {P : Program} {w : World} {K : PySem.W.Frag} {mg : Str → Option Value} {base : Heap}
abbrev s_words : Stmt := top 60
theorem sc_words : FnScope ["_law_draw_here", "_law_many", "_law_pool", "_law_found", "_law_turn", "_law_letter"] ["_law_draw_here", "_law_many"] (defScope s_words) := ⟨rfl, rfl, rfl, by decide +kernel, rfl, by decide +kernel, by decide +kernel⟩
theorem nv_sc_words : NmOk ["_law_draw_here", "_law_many", "_law_pool", "_law_found", "_law_turn", "_law_letter"] (defScope s_words) 5 := ⟨by decide +kernel⟩
/-! ### texts of single signs -/
abbrev one (n : Nat) : Str := ⟨#[n]⟩
theorem join_one : ∀ l : List Nat, Txt.join ("" : Str) (l.map one) = ⟨l.toArray⟩ := by
  intro l
  show Builtin.Str.glued _ _ = _
  rw [StrLaws.glued_eq_join]
  have em : ("" : Str) = ⟨#[]⟩ := rfl
  have ap : ∀ a b : Str, a ++ b = ⟨a.cps ++ b.cps⟩ := fun _ _ => rfl
  induction l with
  | nil => rfl
  | cons a r ih =>
    cases r with
    | nil => rfl
    | cons b t =>
      show one a ++ ("" : Str) ++ Str.join ("" : Str) (one b :: t.map one) = _
      rw [show Str.join ("" : Str) (one b :: t.map one) = ⟨(b :: t).toArray⟩ from ih, em, ap, ap]
      congr 1
      simp
theorem rising_ones : ∀ (l : List Nat) (p : Nat), risingS (one p) (l.map one) = true → (p :: l).Pairwise (· ≤ ·)
  | [], p, _ => by simp
  | x :: l, p, h => by
    have h : (!ltCps [x] [p] && risingS (one x) (l.map one)) = true := h
    simp only [Bool.and_eq_true, Bool.not_eq_true'] at h
    obtain ⟨h1, h2⟩ := h
    have h1 : (decide (x < p) || (x == p && false)) = false := h1
    simp at h1
    have z := rising_ones l x h2
    refine List.pairwise_cons.mpr ⟨fun y hy => ?_, z⟩
    rcases List.mem_cons.mp hy with e | e
    · omega
    · have := (List.pairwise_cons.mp z).1 y e
      omega
theorem sorted_ones {l : List Nat} (h : sortedS (l.map one) = true) : l.Pairwise (· ≤ ·) := by
  cases l with
  | nil => exact .nil
  | cons x l => exact rising_ones l x h
abbrev letters : List Nat := SMALL.cps.toList
/-- m words that rise -/
def goodW (m : Nat) (z : Str) : Prop := z.length = m ∧ z.cps.toList.Pairwise (· < ·) ∧ ∀ n ∈ z.cps.toList, n ∈ letters
theorem goodW_words {m : Nat} {z : Str} (g : goodW m z) (h1 : 1 ≤ m) (h2 : m ≤ 4) : wordsB (.str z) = true := by
  obtain ⟨hl, hp, hm⟩ := g
  show (decide (1 ≤ z.length ∧ z.length ≤ 4) && ((offAt z SMALL).isNone && riseB z)) = true
  rw [decide_eq_true (by omega)]
  have e1 : offAt z SMALL = none := by
    unfold offAt
    rw [List.findIdx?_eq_none_iff]
    intro x hx
    simp only [Bool.not_eq_false', decide_eq_true_eq]
    exact hm x hx
  have e2 : riseB z = true := by
    unfold riseB
    rw [List.all_map, List.all_eq_true]
    intro i hi
    have hi := List.mem_range.mp hi
    have zl : z.cps.toList.length = z.length := rfl
    have a1 : z.cps.toList[i]? = some (z.cps.toList[i]'(by omega)) := List.getElem?_eq_getElem (by omega)
    have a2 : z.cps.toList[i + 1]? = some (z.cps.toList[i + 1]'(by omega)) := List.getElem?_eq_getElem (by omega)
    show ltAt z.cps.toList i = true
    unfold ltAt
    rw [a1, a2]
    have lt := List.pairwise_iff_getElem.mp hp i (i + 1) (by omega) (by omega) (by omega)
    simp only [decide_eq_true_eq]
    exact List.Lex.rel lt
  rw [e1, e2]
  rfl
theorem goodW_mk {Fd ys : List Nat} {xs : List Str} {m : Nat} (nd : Fd.Nodup) (hm : ∀ n ∈ Fd, n ∈ letters) (hl : Fd.length = m) (hp : xs.Perm (Fd.map one)) (hs : sortedS xs = true) : ∃ z : Str, Txt.join ("" : Str) xs = z ∧ goodW m z ∧ (xs.map (·.length)).sum = m := by
  have h1 : ∀ x ∈ xs, ∃ n, x = one n := fun x hx => by
    obtain ⟨n, _, e⟩ := List.mem_map.mp (hp.mem_iff.mp hx)
    exact ⟨n, e.symm⟩
  have e : xs = (xs.map fun s => s.cps.toList.headD 0).map one := by
    rw [List.map_map]
    have : xs.map (one ∘ fun s => s.cps.toList.headD 0) = xs.map id := List.map_congr_left fun x hx => by
      obtain ⟨n, rfl⟩ := h1 x hx
      rfl
    rw [this, List.map_id]
  have pf : (xs.map fun s => s.cps.toList.headD 0).Perm Fd := by
    have z := hp.map fun s : Str => s.cps.toList.headD 0
    rw [List.map_map] at z
    have : Fd.map ((fun s : Str => s.cps.toList.headD 0) ∘ one) = Fd.map id := List.map_congr_left fun _ _ => rfl
    rw [this, List.map_id] at z
    exact z
  generalize xs.map (fun s => s.cps.toList.headD 0) = l at e pf
  subst e
  refine ⟨_, join_one l, ⟨?_, ?_, fun n hn => hm n (pf.mem_iff.mp hn)⟩, ?_⟩
  · show l.toArray.size = m
    rw [List.size_toArray, pf.length_eq, hl]
  · have le := sorted_ones hs
    have nd2 := pf.nodup_iff.mpr nd
    show l.Pairwise _
    have z := le.and nd2
    exact z.imp fun ⟨a, b⟩ => by
      have b : _ ≠ _ := b
      omega
  · rw [List.map_map]
    have : l.map ((fun x : Str => x.length) ∘ one) = l.map fun _ => 1 := List.map_congr_left fun _ _ => rfl
    rw [this]
    have s1 : ∀ l : List Nat, (l.map fun _ => 1).sum = l.length := fun l => by
      induction l with
      | nil => rfl
      | cons a l ih => simp [ih]; omega
    rw [s1, pf.length_eq, hl]
section
variable {c : Cy cls} {ρ : Rho}
theorem we_sortedS {a : Expr} {pp pos : Pos} {P : D → Prop} {ex : Xd → Prop} (nb : NB c.X.mg) (h : WE c a ρ (fun d => ∃ xs : List Str, d = .lst (xs.map D.str) ∧ xs.length < 64 ∧ ∀ ys : List Str, ys.Perm xs → sortedS ys = true → P (.lst (ys.map D.str))) ex)
    (hp : PE c.X (.Call (.Name "sorted" pp) [a] [] pos) (tCB (rSortedS c.X.K) (tAs c [a])) := by exact pe_callB cr_sortedS (by rfl) ((by assumption : NB _) _ (by decide)) (by decide +kernel) (pa_cons (peU _ _) pa_nil)) :
    WE c (.Call (.Name "sorted" pp) [a] [] pos) ρ P ex := we_blt hp lsd_sortedS (WE.mono h fun d ⟨xs, h1, h2, h3⟩ => ⟨xs, by rw [h1], h2, h3⟩)
end
theorem erase_perm : ∀ {l : List Nat} {i : Nat} (h : i < l.length), (l[i] :: l.eraseIdx i).Perm l
  | _ :: _, 0, _ => .refl _
  | a :: l, i + 1, h => by
    have := erase_perm (l := l) (i := i) (by simpa using h)
    exact (List.Perm.swap _ _ _).trans (this.cons a)
theorem erase_map {α β : Type} (f : α → β) : ∀ (l : List α) (i : Nat), (l.map f).eraseIdx i = (l.eraseIdx i).map f
  | [], _ => rfl
  | _ :: _, 0 => rfl
  | a :: l, i + 1 => by
    show f a :: (l.map f).eraseIdx i = f a :: (l.eraseIdx i).map f
    rw [erase_map f l i]
/-! ### _law_words -/
abbrev onesD (l : List Nat) : List D := l.map fun n => .str (one n)
def fs_words : FS := fun ds rt _ => ∃ m : Nat, ds = [.own 1, .int (m : Nat)] ∧ 1 ≤ m ∧ m ≤ 5 ∧ ∀ z, goodW m z → rt (.str z)
theorem ok_words {f : Addr} {fd : FuncData} (nb : NB mg) (d1 : Df P w K mg base cls "_law_pick" 2 ["_law_draw_here", "_law_many"] fs_pick) (F : Fun K "_law_words" "_law_words" s_words f fd) : FnOk P w K mg base (L2N.CX P w) 3 f fd ["_law_draw_here", "_law_many"] (spOf cls fs_words) := by
  have hV := nv_sc_words
  refine def_ok F sc_words (fun ds rt ex h => ?_) (fun cdv A outer s H E W R ds rt ex hr h => ?_)
  · obtain ⟨_, rfl, _⟩ := h
    rfl
  · obtain ⟨m, rfl, m1, m5, k⟩ := h
    have hN := sc_words.nd
    have l26 : letters.length = 26 := by decide +kernel
    have nd26 : letters.Nodup := by decide +kernel
    refine wss_cons (ws_lc 2 5 hN (LC.map (wi_str ?_)))
    repeat walk_at "v"
    refine ⟨_, rfl, by rw [signs_len]; show 26 ≤ _; omega, fun i x y => y = x, fun i x hi => ⟨_, rfl, fun s0 H0 C cl fp => ?_⟩, fun acc e1 e2 => .inr ?_⟩
    · repeat walk_at "v"
      rfl
    rw [acc_map (g := id) e1 (fun i d y h1 h2 => e2 i d y h1 h2), List.map_id]
    refine wss_cons (ws_own 3 hN rfl ?_)
    refine wss_cons (ws_for rfl (wi_range1 (nb _ (by decide)) ?_))
    repeat walk_at "v"
    refine ⟨_, rfl, by omega, by omega, fun i ρ' => ∃ (Pl Fd : List Nat) (o4 o5 : Option Sv), (Fd ++ Pl).Perm letters ∧ Fd.length = i ∧ ρ' = [some (.val (.own 1)), some (.val (.int (m : Nat))), some (.lst (onesD Pl)), some (.lst (onesD Fd)), o4, o5], ⟨letters, [], none, none, .refl _, rfl, rfl⟩, fun i d ρ' hi hI => ?_, fun ρ' hI => ?_⟩
    · obtain ⟨hlt, rfl⟩ := rangeD_get hi
      have hlt : i < m := by simpa using hlt
      obtain ⟨Pl, Fd, o4, o5, hp, hf, rfl⟩ := hI
      have hpl : Pl.length = 26 - i := by
        have := hp.length_eq
        rw [List.length_append, l26] at this
        omega
      refine wg_name 4 hN rfl ?_
      refine wss_one (ws_appPop 3 2 (by decide) rfl rfl (by unfold onesD; rw [List.length_map, hf, sizeLine_eq]; omega) rfl rfl (we_call d1 hr ?_))
      walk_at "v"
      refine we_olen (i := 2) nb rfl rfl ?_
      refine ⟨((onesD Pl).length : Nat), rfl, by unfold onesD; rw [List.length_map]; omega, fun r r0 r1 => ?_⟩
      unfold onesD at r1
      rw [List.length_map] at r1
      have hr2 : r.toNat < Pl.length := by omega
      have ek := List.getElem?_eq_getElem hr2
      refine ⟨r, r.toNat, .str (one Pl[r.toNat]), rfl, by omega, by omega, ?_, by unfold onesD; rw [List.getElem?_map, ek]; rfl, Pl.eraseIdx r.toNat, Fd ++ [Pl[r.toNat]], some (.val (.int (0 + (i : Nat)))), o5, ?_, by rw [List.length_append, hf]; rfl, ?_⟩
      · unfold seqIndex? onesD
        rw [List.length_map]
        simp only [if_neg (show ¬ r < 0 by omega)]
        have : (decide (0 ≤ r) && decide (r < (Pl.length : Int))) = true := by simp; omega
        rw [this]
        rfl
      · have := erase_perm hr2
        refine List.Perm.trans ?_ hp
        rw [List.append_assoc]
        exact List.Perm.append_left _ this
      · have e1 : (onesD Pl).eraseIdx r.toNat = onesD (Pl.eraseIdx r.toNat) := by unfold onesD; rw [erase_map]
        have e2 : onesD Fd ++ [.str (one Pl[r.toNat])] = onesD (Fd ++ [Pl[r.toNat]]) := by unfold onesD; rw [List.map_append]; rfl
        rw [← e1, ← e2]
        rfl
    · obtain ⟨Pl, Fd, o4, o5, hp, hf, rfl⟩ := hI
      rw [rangeD_length] at hf
      have hf : Fd.length = m := by omega
      refine wss_pub 3 rfl (wss_one (ws_ret (we_join ?_)))
      repeat walk_at "v"
      refine ⟨_, rfl, we_sortedS nb ?_⟩
      repeat walk_at "v"
      refine ⟨Fd.map one, by unfold onesD; rw [List.map_map]; rfl, by rw [List.length_map]; omega, fun ys hy hs => ?_⟩
      have nd2 : Fd.Nodup := (List.nodup_append.mp (hp.nodup_iff.mpr nd26)).1
      obtain ⟨z, ez, gz, sz⟩ := goodW_mk (ys := []) nd2 (fun n hn => hp.mem_iff.mp (List.mem_append_left _ hn)) hf hy hs
      refine ⟨ys, rfl, ?_, ?_⟩
      · rw [sz]
        have : ("" : Str).length = 0 := rfl
        rw [this]
        omega
      · rw [ez]
        exact k z gz
end
section
set_option maxHeartbeats 16000000
open PySem PySem.Spec PyProof.Rows L2 Vl
variable {cls : Nat → Addr} {P : Program} {w : World} {K : PySem.W.Frag} {mg : Str → Option Value} {base : Heap}
/-! ### what are no words -/
theorem app_list (a b : Str) : (a ++ b).cps.toList = a.cps.toList ++ b.cps.toList := by
  show (a.cps ++ b.cps).toList = _
  rw [Array.toList_append]
theorem app_len (a b : Str) : (a ++ b).length = a.length + b.length := PySem.Str.length_append ..
end
section
set_option maxHeartbeats 8000000
open PySem PySem.Spec PyProof.Rows L2 Vl
variable {cls : Nat → Addr} {P : Program} {w : World} {K : PySem.W.Frag} {mg : Str → Option Value} {base : Heap}
/-- what the text says of Drill.REST -/
structure DrR (K : PySem.W.Frag) (mg : Str → Option Value) (C : Addr) : Prop where
  nm : mg "Drill" = some (.ref C)
  rd : ClX.CRead K C (.type "type")
  cv : ∃ u, ClX.CVal K C (.type "type") "REST" (.int 0) u
  con : ∃ u, Con K C "REST" (.int 0) u
theorem okD_rowsT {rows : List Row} (s : smallRows rows) : okD 3 (rowsT rows) := by rw [← tupled_rowsL]; exact okD_remk (okD_rowsL s)
theorem ne_int {i : Int} {P : D → Prop} (h : P (.bl false)) : FNe (.int i) (.int i) P := ⟨.int i, .int i, rfl, rfl, rfl, by simpa using h⟩
end
section
set_option maxHeartbeats 16000000
open PySem PySem.Spec PyProof.Rows L2 Vl
variable {cls : Nat → Addr} {P : Program} {w : World} {K : PySem.W.Frag} {mg : Str → Option Value} {base : Heap}
/-! ### == of rows -/
theorem eqv_rowT (r q : Row) : PyData.eqv (pyOf (rowT r)) (pyOf (rowT q)) = decide (r = q) := by
  obtain ⟨a, b, ns⟩ := r
  obtain ⟨a', b', ms⟩ := q
  unfold rowT
  simp only [pyOf, pyOfL, PyData.eqv, PyData.eqvAll, eqv_ints]
  rw [Bool.eq_iff_iff]
  simp
theorem eqv_list {g : Row → D} (hg : ∀ r q, PyData.eqv (pyOf (g r)) (pyOf (g q)) = decide (r = q)) : ∀ xs ys : List Row, PyData.eqvAll (pyOfL (xs.map g)) (pyOfL (ys.map g)) = decide (xs = ys)
  | [], [] => by simp [pyOfL, PyData.eqvAll]
  | [], y :: ys => by simp [pyOfL, PyData.eqvAll]
  | x :: xs, [] => by simp [pyOfL, PyData.eqvAll]
  | x :: xs, y :: ys => by
    simp only [List.map_cons, pyOfL, PyData.eqvAll, hg, eqv_list hg xs ys]
    rw [Bool.eq_iff_iff]
    simp
theorem rowsEq_iff (xs ys : List Row) : rowsEq xs ys = decide (xs = ys) := by
  unfold rowsEq eqB
  rw [pyOf, pyOf, PyData.eqv]
  exact eqv_list eqv_rowT xs ys
theorem lay_rowT (r : Row) : PyData.canLay0 (pyOf (rowT r)) = true ∧ PyData.depth (pyOf (rowT r)) ≤ 2 := by
  obtain ⟨a, b, ns⟩ := r
  obtain ⟨h1, h2⟩ := py_ints ns
  unfold rowT
  simp [pyOf, pyOfL, PyData.canLay0, PyData.canLayAll0, PyData.depth, PyData.depthAll, h1, h2]
theorem lay_list {g : Row → D} (hg : ∀ r, PyData.canLay0 (pyOf (g r)) = true ∧ PyData.depth (pyOf (g r)) ≤ 2) : ∀ xs : List Row, PyData.canLayAll0 (pyOfL (xs.map g)) = true ∧ PyData.depthAll (pyOfL (xs.map g)) ≤ 2
  | [] => by simp [pyOfL, PyData.canLayAll0, PyData.depthAll]
  | x :: xs => by
    obtain ⟨h1, h2⟩ := lay_list hg xs
    obtain ⟨h3, h4⟩ := hg x
    simp only [List.map_cons, pyOfL, PyData.canLayAll0, PyData.depthAll, h1, h3]
    refine ⟨rfl, ?_⟩
    omega
theorem str_beq (a b : Str) : (a == b) = decide (a = b) := by
  rw [Bool.eq_iff_iff]
  simp
end
section
set_option maxHeartbeats 16000000
open PySem PySem.Spec PyProof.Rows L2 Vl
variable {cls : Nat → Addr} {P : Program} {w : World} {K : PySem.W.Frag} {mg : Str → Option Value} {base : Heap}
abbrev s_draw : Stmt := top 56
abbrev N_draw : List Str := ["_law_script", "_law_cells", "_law_cell"]
theorem sc_draw : FnScope N_draw ["_law_script"] (defScope s_draw) := ⟨rfl, rfl, rfl, by decide +kernel, rfl, by decide +kernel, by decide +kernel⟩
theorem nv_sc_draw : NmOk N_draw (defScope s_draw) 2 := ⟨by decide +kernel⟩
/-! ### worlds -/
def wZ (cls : Nat → Addr) : Wd cls where
  dr := 0
  cl := 0
  ns := []
  kind := 0
  mv := fun _ => False
  base := fun _ => False
  ok := fun _ => True
  mvb := fun _ z => z
  some := fun _ _ _ z => z.elim
  keep := fun _ _ _ _ => trivial
  dmv := fun h => absurd h (by decide)
  dok := fun h => absurd h (by decide)
  dset := fun h => absurd h (by decide)
  cok := fun h => absurd h (by decide)
def wDraw (cls : Nat → Addr) (dr cl : Addr) (ns : List Int) (hne : cl ≠ dr) (hl : ns.length ≤ 63) : Wd cls where
  dr := dr
  cl := cl
  ns := ns
  kind := 1
  mv := fun a => a = dr
  base := fun a => a = dr ∨ a = cl
  ok := fun H => DrawAt dr cl ns H
  mvb := fun _ z => .inl z
  some := fun H h a b => by
    obtain ⟨_, _, _, _, _, _, h1, h2⟩ := h
    rcases b with b | b <;> subst b
    · rw [h2]; exact fun z => nomatch z
    · rw [h1]; exact fun z => nomatch z
  keep := fun H H' h k => by
    obtain ⟨i1, i2, i3, i4, i5, h0, h1, h2⟩ := h
    exact ⟨i1, i2, i3, i4, i5, h0, by rw [k _ (.inr rfl)]; exact h1, by rw [k _ (.inl rfl)]; exact h2⟩
  dmv := fun _ => ⟨rfl, hne, hl⟩
  dok := fun _ _ h => h
  dset := fun _ _ _ _ _ h => h
  cok := fun h => absurd h (by decide)
/-- statements in a world that is found on the way -/
def tLate (cls : Nat → Addr) (X : Cx) (st : List Stmt) : TS := fun Ds σ H => ∃ (W : Wd cls) (R0 : Addr → Prop) (H0 : Hp) (ρ : Rho) (R : Addr → Prop) (E : L2.St → XK) (p : Po), Sl (⟨X, W, R0, H0⟩ : Cy cls) R H σ ρ ∧ Tk X E ∧ EndsOk (⟨X, W, R0, H0⟩ : Cy cls) R H Ds p ∧ ExS (⟨X, W, R0, H0⟩ : Cy cls) E p.ex ∧ WSs (⟨X, W, R0, H0⟩ : Cy cls) st ρ p
theorem pssLate (cls : Nat → Addr) (X : Cx) (st : List Stmt) : PSs X st (tLate cls X st) := ⟨fun pins s σ H Ds I ⟨W, R0, H0, ρ, R, E, p, S, tk, en, x, w⟩ => w.run pins s σ H R Ds E I S tk en x⟩
/-! ### _law_draw -/
def spDraw (K : PySem.W.Frag) : Sp := fun vs H Q _ => ∃ (a : Addr) (ns : List Int), vs = [.ref a] ∧ SqL K H a (ns.map V.int) ∧ ns.length ≤ 63 ∧
  ∀ dr cl H' i5, cl ≠ dr → H' cl = some (.lst (ns.map V.int)) → H' dr = some (.lst [.ref cl, .int 0, .int 0, .int 0, .int 0, .int i5]) → Q (.ref dr) H'
theorem sqL_up {H H' : Hp} {a q : Addr} {xs : List V} (h : SqL K H a xs) (hq : H q = none) (k : ∀ b, b ≠ q → H' b = H b) : SqL K H' a xs := by
  rcases h with h | h
  · refine .inl ?_
    have ne : a ≠ q := fun z => by
      subst z
      rcases h with h | ⟨o, h⟩
      · rw [hq] at h; cases h
      · rw [hq] at h; cases h
    rcases h with h | ⟨o, h⟩
    · exact .inl (by rw [k a ne]; exact h)
    · exact .inr ⟨o, by rw [k a ne]; exact h⟩
  · exact .inr h
theorem ok_draw {f : Addr} {fd : FuncData} (nb : NB mg) (F : Fun K "_law_draw" "_law_draw" s_draw f fd) : FnOk P w K mg base (L2N.CX P w) 1 f fd ["_law_script"] (spDraw K) := by
  have hV := nv_sc_draw
  refine okN F sc_draw (fun vs H Q E h => by obtain ⟨a, ns, rfl, _⟩ := h; rfl) (fun cdv A outer s H vs Q E hr h => ?_)
  obtain ⟨a, ns, rfl, hs, hl, k⟩ := h
  have hN := sc_draw.nd
  refine ⟨_, pss_cons (ps_setLc (i := 1) (own := [("_law_cell", 2)]) rfl hN rfl rfl (sw_true rfl rfl rfl (by kernel_rfl)) (pi_list (pe_var (i := 0) rfl (.inl rfl))) (blkOk_by (by kernel_rfl)) (fun _ _ _ _ _ => pg_name (i := 2) hN rfl (Or.inl rfl)) (fun _ _ _ _ _ => pts_nil) (fun _ _ _ _ _ => pe_var (i := 2) rfl (.inl rfl)) (by intro _; rfl)) (pssLate (fun _ => 0) _ _), ?_⟩
  unfold tSeq tAsg
  refine ⟨.ref a, rfl, a, rfl, ⟨_, hs⟩, fun q hq => ?_⟩
  refine lc_it walk_list (fun i H' => H' q = some (.lst ((ns.take i).map V.int)) ∧ ∀ b, b ≠ q → H' b = H b) ⟨upd_same, fun b hb => upd_ne hb⟩ (fun i H' _ h => sqL_up hs hq h.2) (fun i x Hc H' hi h y => ?_) fun H' h => ?_
  · obtain ⟨e1, e2⟩ := y
    subst e1
    rw [List.getElem?_map] at e2
    cases en : ns[i]? with
    | none => rw [en] at e2; cases e2
    | some n =>
      rw [en] at e2
      cases e2
      refine ⟨rfl, ?_⟩
      unfold tYes
      dsimp only
      refine iteT ⟨.int n, rfl, _, h.1, by rw [List.length_map, List.length_take, sizeLine_eq]; omega, ?_, fun b hb => by rw [upd_ne hb]; exact h.2 b hb⟩
      rw [upd_same, List.take_succ, en]
      simp
  · obtain ⟨h1, h2⟩ := h
    rw [List.length_map, List.take_length] at h1
    have S : Sl (⟨cxOf (L2N.CX P w) P w K mg base N_draw "_law_draw" (defScope s_draw) f cdv A outer s H E, wZ (fun _ => 0), fun _ => False, H⟩ : Cy (fun _ => 0)) (fun b => b = q) H' [some (.ref a), some (.ref q), none] [none, some (.val (.lst (ns.map D.int))), none] := {
      ndr := fun _ z => z.elim
      ok := trivial
      ok0 := fun _ z => z.elim
      gr := fun b o _ e => by
        have e : H b = some o := e
        rw [h2 b fun z => by rw [z, hq] at e; cases e]
        exact e
      sub := fun b z => by subst z; exact .inr hq
      len := rfl
      val := fun i d e => by
        match i, e with
        | 1, e => cases e; exact ⟨.ref q, rfl, .lst rfl h1 (DqL.of_ints ns)⟩
        | 0, e => cases e
        | 2, e => cases e
        | i + 3, e => cases e
      lst := fun i ds e => by
        match i, e with
        | 1, e => cases e
        | 0, e => cases e
        | 2, e => cases e
        | i + 3, e => cases e
      sep := fun i j ds es b _ e => by
        match i, e with
        | 1, e => cases e
        | 0, e => cases e
        | 2, e => cases e
        | i + 3, e => cases e
      ob := fun i b kk fs e => by
        match i, e with
        | 1, e => cases e
        | 0, e => cases e
        | 2, e => cases e
        | i + 3, e => cases e
      exc := fun i e' e => by
        match i, e with
        | 1, e => cases e
        | 0, e => cases e
        | 2, e => cases e
        | i + 3, e => cases e
      dc := fun i e' e => by
        match i, e with
        | 1, e => cases e
        | 0, e => cases e
        | 2, e => cases e
        | i + 3, e => cases e
      sepd := fun i j e1 e2 b _ e => by
        match i, e with
        | 1, e => cases e
        | 0, e => cases e
        | 2, e => cases e
        | i + 3, e => cases e }
    refine ⟨wZ (fun _ => 0), fun _ => False, H, _, _, fun _ => E, { nx := fun _ => False, rt := fun _ d => ∃ i5, d = .lst [.lst (ns.map D.int), .int 0, .int 0, .int 0, .int 0, .int i5] }, S, L2N.takes_of rfl rfl rfl rfl, ⟨fun _ _ _ _ _ _ z => z.elim, fun R2 H2 σ2 ρ2 v d S2 q2 h => ?_, fun _ _ _ _ _ _ z => z.elim, fun _ _ _ _ _ _ z => z.elim⟩, fun _ _ _ _ _ _ _ _ _ z => z.elim, ?_⟩
    · obtain ⟨i5, rfl⟩ := h
      cases q2 with
      | @lst dr vs _ _ ed qL =>
        cases qL with
        | cons q1 qL =>
        cases q1 with
        | @lst cl us _ _ ec qc =>
        cases qL with
        | cons q1 qL =>
        cases q1
        cases qL with
        | cons q1 qL =>
        cases q1
        cases qL with
        | cons q1 qL =>
        cases q1
        cases qL with
        | cons q1 qL =>
        cases q1
        cases qL with
        | cons q1 qL =>
        cases q1
        cases qL
        rw [qc.ints] at ec
        refine k dr cl H2 i5 (fun z => ?_) ec ed
        subst z
        rw [ed] at ec
        cases ns with
        | nil => cases ec
        | cons n ns => cases ec
    · refine wss_one (ws_ret (we_lst ?_))
      repeat walk_at "v"
      refine we_add ?_
      repeat walk_at "v"
      refine ⟨ns, rfl, _, rfl, ?_⟩
      repeat walk_at "v"
      refine ⟨_, _, rfl, rfl, by decide, ?_⟩
      repeat walk_at "v"
      refine ⟨ns.length, by show some (ns.map D.int).length = _; rw [List.length_map], ?_⟩
      exact ⟨_, _, rfl, rfl, mul_l (by decide) (by decide), _, _, rfl, rfl, _, rfl⟩
end
section
set_option maxHeartbeats 4000000
open PySem PySem.Spec PyProof.Rows L2 Vl
variable {cls : Nat → Addr} {P : Program} {w : World} {K : PySem.W.Frag} {mg : Str → Option Value} {base : Heap}
section
variable {c : Cy cls} {ρ : Rho}
theorem we_in {a b : Expr} {pos : Pos} {Q : D → Prop} {ex : Xd → Prop} (h : WE c a ρ (fun x => WE c b ρ (fun y => FIn false x y Q) ex) ex) (hm : behindInMarks .In b = false := by rfl) : WE c (.Compare a [.In] [b] pos) ρ Q ex :=
  we_bin (pe_cmpR op_in_sign (peU c a) (peU c b) hm) opd_in h
end
abbrev s_is_letter : Stmt := top 23
theorem sc_is_letter : FnScope ["thing", "letters"] ["thing", "letters"] (defScope s_is_letter) := ⟨rfl, rfl, rfl, by decide +kernel, rfl, by decide +kernel, by decide +kernel⟩
theorem nv_sc_is_letter : NmOk ["thing", "letters"] (defScope s_is_letter) 2 := ⟨by decide +kernel⟩
/-- a datum that is one sign of L -/
def ltrB (d : D) (L : Str) : Bool := match d with
  | .str z => (match z.cps.toList with | [n] => decide (n ∈ L.cps.toList) | _ => false)
  | _ => false
theorem ltrB_str {z L : Str} : ltrB (.str z) L = (match z.cps.toList with | [n] => decide (n ∈ L.cps.toList) | _ => false) := rfl
theorem str_one {z : Str} {n : Nat} (h : z.cps.toList = [n]) : z = one n := by
  obtain ⟨c⟩ := z
  congr
  exact Array.toList_inj.mp h
def fs_is_letter : FS := fun ds rt _ => ∃ d L, ds = [d, .str L] ∧ txtOk d ∧ rt (.bl (ltrB d L))
theorem ok_is_letter {f : Addr} {fd : FuncData} (nb : NB mg) (F : Fun K "is_letter" "is_letter" s_is_letter f fd) : FnOk P w K mg base (L2N.CX P w) 1 f fd ["thing", "letters"] (spOf cls fs_is_letter) := by
  have hV := nv_sc_is_letter
  refine def_ok F sc_is_letter (fun ds rt ex h => ?_) (fun cdv A outer s H E W R ds rt ex hr h => ?_)
  · obtain ⟨d, L, rfl, _⟩ := h
    rfl
  · obtain ⟨d, L, rfl, ⟨hd, hz⟩, k⟩ := h
    refine wss_one (ws_ret ?_)
    repeat walk_at "v"
    refine ⟨hd, _, rfl, fun e => ?_, fun e => ?_⟩
    · cases d <;> first | exact Bool.noConfusion e | skip
      rename_i z
      have hl := hz z rfl
      refine we_and (we_eq ?_)
      repeat walk_at "v"
      refine ⟨z.length, len_str hl, ?_⟩
      repeat walk_at "v"
      refine ⟨.int (z.length : Nat), .int 1, rfl, rfl, rfl, _, rfl, fun e1 => ?_, fun e1 => ?_⟩
      · have l0 : ((z.length : Nat) : Int) = 1 := by have := of_decide_eq_true e1; simpa using this
        have l1 : z.length = 1 := by omega
        obtain ⟨n, hn⟩ : ∃ n, z.cps.toList = [n] := List.length_eq_one_iff.mp (by rw [← l1]; rfl)
        have ez := str_one hn
        refine we_one (we_in ?_)
        repeat walk_at "v"
        refine ⟨n, L, by rw [ez], rfl, ?_⟩
        rw [ltrB_str, hn] at k
        exact k
      · have l1 : z.length ≠ 1 := fun h => by rw [h] at e1; simp at e1
        rw [ltrB_str] at k
        have : ∀ l : List Nat, l.length = z.length → (match l with | [n] => decide (n ∈ L.cps.toList) | _ => false) = false := fun l hl => by
          match l, hl with
          | [], _ => rfl
          | [_], h => exact absurd h.symm l1
          | _ :: _ :: _, _ => rfl
        rw [this _ (by rfl)] at k
        exact k
    · cases d <;> first | exact k | exact Bool.noConfusion e
/-! ### _law_names -/
abbrev s_names : Stmt := top 61
abbrev N_names : List Str := ["_law_draw_here", "_law_many", "_law_pool", "_law_found", "_law_turn", "_law_letter"]
theorem sc_names : FnScope N_names ["_law_draw_here", "_law_many"] (defScope s_names) := ⟨rfl, rfl, rfl, by decide +kernel, rfl, by decide +kernel, by decide +kernel⟩
theorem nv_sc_names : NmOk N_names (defScope s_names) 5 := ⟨by decide +kernel⟩
def CAPS : Str := "ABCDEFGHIJKLMNOPQRSTUVWXYZ"
abbrev capitals : List Nat := CAPS.cps.toList
/-- a text of different capitals -/
def goodN (m : Nat) (z : Str) : Prop := z.length = m ∧ z.cps.toList.Nodup ∧ ∀ n ∈ z.cps.toList, n ∈ capitals
theorem ones_sum : ∀ l : List Nat, ((l.map one).map fun x : Str => x.length).sum = l.length
  | [] => rfl
  | a :: l => by
    have := ones_sum l
    simp only [List.map_cons, List.sum_cons, this, List.length_cons]
    have : (one a).length = 1 := rfl
    omega
def fs_names : FS := fun ds rt _ => ∃ m : Nat, ds = [.own 1, .int (m : Nat)] ∧ 1 ≤ m ∧ m ≤ 4 ∧ ∀ z, goodN m z → rt (.str z)
theorem ok_names {f : Addr} {fd : FuncData} (nb : NB mg) (d1 : Df P w K mg base cls "_law_pick" 2 ["_law_draw_here", "_law_many"] fs_pick) (F : Fun K "_law_names" "_law_names" s_names f fd) : FnOk P w K mg base (L2N.CX P w) 3 f fd ["_law_draw_here", "_law_many"] (spOf cls fs_names) := by
  have hV := nv_sc_names
  refine def_ok F sc_names (fun ds rt ex h => ?_) (fun cdv A outer s H E W R ds rt ex hr h => ?_)
  · obtain ⟨_, rfl, _⟩ := h
    rfl
  · obtain ⟨m, rfl, m1, m5, k⟩ := h
    have hN := sc_names.nd
    have l26 : capitals.length = 26 := by decide +kernel
    have nd26 : capitals.Nodup := by decide +kernel
    refine wss_cons (ws_lc 2 5 hN (LC.map (wi_str ?_)))
    repeat walk_at "v"
    refine ⟨_, rfl, by rw [signs_len]; show 26 ≤ _; omega, fun i x y => y = x, fun i x hi => ⟨_, rfl, fun s0 H0 C cl fp => ?_⟩, fun acc e1 e2 => .inr ?_⟩
    · repeat walk_at "v"
      rfl
    rw [acc_map (g := id) e1 (fun i d y h1 h2 => e2 i d y h1 h2), List.map_id]
    refine wss_cons (ws_own 3 hN rfl ?_)
    refine wss_cons (ws_for rfl (wi_range1 (nb _ (by decide)) ?_))
    repeat walk_at "v"
    refine ⟨_, rfl, by omega, by omega, fun i ρ' => ∃ (Pl Fd : List Nat) (o4 o5 : Option Sv), (Fd ++ Pl).Perm capitals ∧ Fd.length = i ∧ ρ' = [some (.val (.own 1)), some (.val (.int (m : Nat))), some (.lst (onesD Pl)), some (.lst (onesD Fd)), o4, o5], ⟨capitals, [], none, none, .refl _, rfl, rfl⟩, fun i d ρ' hi hI => ?_, fun ρ' hI => ?_⟩
    · obtain ⟨hlt, rfl⟩ := rangeD_get hi
      have hlt : i < m := by simpa using hlt
      obtain ⟨Pl, Fd, o4, o5, hp, hf, rfl⟩ := hI
      have hpl : Pl.length = 26 - i := by
        have := hp.length_eq
        rw [List.length_append, l26] at this
        omega
      refine wg_name 4 hN rfl ?_
      refine wss_one (ws_appPop 3 2 (by decide) rfl rfl (by unfold onesD; rw [List.length_map, hf, sizeLine_eq]; omega) rfl rfl (we_call d1 hr ?_))
      walk_at "v"
      refine we_olen (i := 2) nb rfl rfl ?_
      refine ⟨((onesD Pl).length : Nat), rfl, by unfold onesD; rw [List.length_map]; omega, fun r r0 r1 => ?_⟩
      unfold onesD at r1
      rw [List.length_map] at r1
      have hr2 : r.toNat < Pl.length := by omega
      have ek := List.getElem?_eq_getElem hr2
      refine ⟨r, r.toNat, .str (one Pl[r.toNat]), rfl, by omega, by omega, ?_, by unfold onesD; rw [List.getElem?_map, ek]; rfl, Pl.eraseIdx r.toNat, Fd ++ [Pl[r.toNat]], some (.val (.int (0 + (i : Nat)))), o5, ?_, by rw [List.length_append, hf]; rfl, ?_⟩
      · unfold seqIndex? onesD
        rw [List.length_map]
        simp only [if_neg (show ¬ r < 0 by omega)]
        have : (decide (0 ≤ r) && decide (r < (Pl.length : Int))) = true := by simp; omega
        rw [this]
        rfl
      · have := erase_perm hr2
        refine List.Perm.trans ?_ hp
        rw [List.append_assoc]
        exact List.Perm.append_left _ this
      · have e1 : (onesD Pl).eraseIdx r.toNat = onesD (Pl.eraseIdx r.toNat) := by unfold onesD; rw [erase_map]
        have e2 : onesD Fd ++ [.str (one Pl[r.toNat])] = onesD (Fd ++ [Pl[r.toNat]]) := by unfold onesD; rw [List.map_append]; rfl
        rw [← e1, ← e2]
        rfl
    · obtain ⟨Pl, Fd, o4, o5, hp, hf, rfl⟩ := hI
      rw [rangeD_length] at hf
      have hf : Fd.length = m := by omega
      refine wss_pub 3 rfl (wss_one (ws_ret (we_join ?_)))
      repeat walk_at "v"
      refine ⟨_, rfl, ?_⟩
      repeat walk_at "v"
      have nd2 : Fd.Nodup := (List.nodup_append.mp (hp.nodup_iff.mpr nd26)).1
      refine ⟨Fd.map one, by unfold onesD; rw [List.map_map]; rfl, ?_, ?_⟩
      · rw [ones_sum, List.length_map, hf]
        have : ("" : Str).length = 0 := rfl
        rw [this]
        omega
      · rw [join_one]
        exact k _ ⟨by show Fd.toArray.size = m; rw [List.size_toArray, hf], nd2, fun n hn => hp.mem_iff.mp (List.mem_append_left _ hn)⟩
end
section
set_option maxHeartbeats 4000000
open PySem PySem.Spec PyProof.Rows L2 Vl
variable {cls : Nat → Addr} {P : Program} {w : World} {K : PySem.W.Frag} {mg : Str → Option Value} {base : Heap}
/-! ### what a make is made of -/
/-- name, lag, rows of a drill -/
abbrev Kd := Str × Int × List Row
def kindT (k : Kd) : D := .tup [.str k.1, .int k.2.1, rowsT k.2.2]
/-- who is ahead, who is behind, how many paces -/
abbrev Se := Str × Str × Int
def seatT (s : Se) : D := .tup [.str s.1, .str s.2.1, .int s.2.2]
abbrev rawD (z : Str) (ks : List Kd) (sp : Int) (ss : List Se) : D := .tup [.str z, .tup (ks.map kindT), .int sp, .tup (ss.map seatT)]
def kindOf (ks : List Kd) (n : Str) : Int × List Row := match ks.find? fun k => decide (k.1 = n) with
  | some k => k.2
  | none => (1, [(0, 1, [0])])
def seatOf (ss : List Se) (sp : Int) (a b : Str) : Int := match ss.find? fun s => decide (s.1 = a ∧ s.2.1 = b) with
  | some s => s.2.2
  | none => sp
theorem find_at {α : Type} {p : α → Bool} {l : List α} {i : Nat} {x : α} (h1 : ∀ (j : Nat) y, j < i → l[j]? = some y → p y = false) (h2 : l[i]? = some x) (h3 : p x = true) : l.find? p = some x := by
  induction l generalizing i with
  | nil => simp at h2
  | cons a l ih =>
    cases i with
    | zero =>
      have : a = x := by simpa using h2
      subst this
      rw [List.find?_cons_of_pos h3]
    | succ i =>
      have := h1 0 a (Nat.succ_pos _) rfl
      rw [List.find?_cons_of_neg (by simp [this])]
      exact ih (fun j y hj hy => h1 (j + 1) y (Nat.succ_lt_succ hj) hy) h2
theorem find_no {α : Type} {p : α → Bool} {l : List α} (h : ∀ (i : Nat) x, l[i]? = some x → p x = false) : l.find? p = none := by
  rw [List.find?_eq_none]
  intro x hx
  obtain ⟨i, hi⟩ := List.getElem?_of_mem hx
  simp [h i x hi]
/-! ### _law_kind -/
def fs_kind : FS := fun ds rt _ => ∃ z ks sp ss n, ds = [rawD z ks sp ss, .str n] ∧ rt (.tup [.int (kindOf ks n).1, rowsT (kindOf ks n).2])
end
section
set_option maxHeartbeats 4000000
open PySem PySem.Spec PyProof.Rows L2 Vl
variable {cls : Nat → Addr} {P : Program} {w : World} {K : PySem.W.Frag} {mg : Str → Option Value} {base : Heap}
/-! ### _law_seat -/
def fs_seat : FS := fun ds rt _ => ∃ z ks sp ss a b, ds = [rawD z ks sp ss, .str a, .str b] ∧ rt (.int (seatOf ss sp a b))
/-! ### _law_all_names -/
theorem sort_mk {Fd : List Nat} {xs : List Str} (nd : Fd.Nodup) (hp : xs.Perm (Fd.map one)) (hs : sortedS xs = true) : ∃ l : List Nat, xs = l.map one ∧ l.Perm Fd ∧ l.Pairwise (· < ·) := by
  have h1 : ∀ x ∈ xs, ∃ n, x = one n := fun x hx => by
    obtain ⟨n, _, e⟩ := List.mem_map.mp (hp.mem_iff.mp hx)
    exact ⟨n, e.symm⟩
  have e : xs = (xs.map fun s => s.cps.toList.headD 0).map one := by
    rw [List.map_map]
    have : xs.map (one ∘ fun s => s.cps.toList.headD 0) = xs.map id := List.map_congr_left fun x hx => by
      obtain ⟨n, rfl⟩ := h1 x hx
      rfl
    rw [this, List.map_id]
  have pf : (xs.map fun s => s.cps.toList.headD 0).Perm Fd := by
    have z := hp.map fun s : Str => s.cps.toList.headD 0
    rw [List.map_map] at z
    have : Fd.map ((fun s : Str => s.cps.toList.headD 0) ∘ one) = Fd.map id := List.map_congr_left fun _ _ => rfl
    rw [this, List.map_id] at z
    exact z
  generalize xs.map (fun s => s.cps.toList.headD 0) = l at e pf
  subst e
  refine ⟨l, rfl, pf, ?_⟩
  have le := sorted_ones hs
  have nd2 := pf.nodup_iff.mpr nd
  have z := le.and nd2
  exact z.imp fun ⟨a, b⟩ => by
    have b : _ ≠ _ := b
    omega
/-- the names of the kinds: different capitals -/
def goodK (ks : List Kd) : Prop := 1 ≤ ks.length ∧ ks.length ≤ 4 ∧ ∃ l : List Nat, l.Nodup ∧ (∀ n ∈ l, n ∈ capitals) ∧ ks.map (·.1) = l.map one
/-- z tells the names in order -/
def allN (ks : List Kd) (z : Str) : Prop := z.length = ks.length ∧ z.cps.toList.Pairwise (· < ·) ∧ (∀ n, n ∈ z.cps.toList ↔ one n ∈ ks.map (·.1)) ∧ ∀ n ∈ z.cps.toList, n ∈ capitals
theorem one_inj {a b : Nat} (h : one a = one b) : a = b := by
  have : (one a).cps.toList = (one b).cps.toList := by rw [h]
  simpa [one] using this
theorem sorted_ext : ∀ {a b : List Nat}, a.Pairwise (· < ·) → b.Pairwise (· < ·) → (∀ n, n ∈ a ↔ n ∈ b) → a = b
  | [], [], _, _, _ => rfl
  | [], y :: b, _, _, h => absurd ((h y).mpr List.mem_cons_self) (by simp)
  | x :: a, [], _, _, h => absurd ((h x).mp List.mem_cons_self) (by simp)
  | x :: a, y :: b, ha, hb, h => by
    have ha := List.pairwise_cons.mp ha
    have hb := List.pairwise_cons.mp hb
    have e : x = y := by
      rcases List.mem_cons.mp ((h x).mp List.mem_cons_self) with e | m1
      · exact e
      · rcases List.mem_cons.mp ((h y).mpr List.mem_cons_self) with e | m2
        · exact e.symm
        · have := hb.1 x m1
          have := ha.1 y m2
          omega
    subst e
    have : a = b := sorted_ext ha.2 hb.2 fun n => by
      constructor
      · intro hn
        rcases List.mem_cons.mp ((h n).mp (List.mem_cons_of_mem _ hn)) with e | m
        · subst e; exact absurd (ha.1 n hn) (Nat.lt_irrefl _)
        · exact m
      · intro hn
        rcases List.mem_cons.mp ((h n).mpr (List.mem_cons_of_mem _ hn)) with e | m
        · subst e; exact absurd (hb.1 n hn) (Nat.lt_irrefl _)
        · exact m
    rw [this]
theorem allN_uniq {ks : List Kd} {y z : Str} (h1 : allN ks y) (h2 : allN ks z) : y = z := by
  have e := sorted_ext h1.2.1 h2.2.1 fun n => (h1.2.2.1 n).trans (h2.2.2.1 n).symm
  obtain ⟨a⟩ := y
  obtain ⟨b⟩ := z
  congr
  exact Array.toList_inj.mp e
theorem allN_mk {ks : List Kd} {ys : List Str} (g : goodK ks) (hp : ys.Perm (ks.map (·.1))) (hs : sortedS ys = true) : allN ks (Txt.join ("" : Str) ys) ∧ (ys.map fun x : Str => x.length).sum = ks.length ∧ ys.length = ks.length := by
  obtain ⟨_, _, l0, nd, hc, e0⟩ := g
  rw [e0] at hp
  obtain ⟨l, rfl, pl, sl⟩ := sort_mk nd hp hs
  have ll : l.length = ks.length := by
    have := congrArg List.length e0
    rw [List.length_map, List.length_map] at this
    rw [pl.length_eq, this]
  rw [join_one, ones_sum, List.length_map]
  refine ⟨⟨by show l.toArray.size = _; rw [List.size_toArray, ll], sl, fun n => ?_, fun n hn => hc n (pl.mem_iff.mp hn)⟩, ll, ll⟩
  rw [e0]
  constructor
  · intro hn
    exact List.mem_map.mpr ⟨n, pl.mem_iff.mp hn, rfl⟩
  · intro hn
    obtain ⟨m, hm, e⟩ := List.mem_map.mp hn
    rw [← one_inj e]
    exact pl.mem_iff.mpr hm
def fs_all : FS := fun ds rt _ => ∃ z ks sp ss, ds = [rawD z ks sp ss] ∧ goodK ks ∧ ∀ y, allN ks y → rt (.str y)
end
section
set_option maxHeartbeats 4000000
open PySem PySem.Spec PyProof.Rows L2 Vl
variable {cls : Nat → Addr} {P : Program} {w : World} {K : PySem.W.Frag} {mg : Str → Option Value} {base : Heap}
theorem tup3x {xs : List D} (e : tupB (.tup xs) 3 3 = true) : ∃ a b c, xs = [a, b, c] := by
  have e : (decide ((3 : Int) ≤ (xs.length : Int)) && decide ((xs.length : Int) ≤ 3)) = true := e
  simp at e
  match xs, e with
  | [a, b, c], _ => exact ⟨a, b, c, rfl⟩
  | [], e => simp at e
  | [_], e => simp at e
  | [_, _], e => simp at e
  | _ :: _ :: _ :: _ :: _, e => simp at e; omega
theorem okX_txt {d : D} (h : okX d) : txtOk d := ⟨okX_dat h, fun z e => by subst e; exact okX_str h⟩
/-! ### is_seat -/
abbrev s_is_seat : Stmt := top 52
theorem sc_is_seat : FnScope ["names", "row", "ahead", "behind", "paces"] ["names", "row"] (defScope s_is_seat) := ⟨rfl, rfl, rfl, by decide +kernel, rfl, by decide +kernel, by decide +kernel⟩
theorem nv_sc_is_seat : NmOk ["names", "row", "ahead", "behind", "paces"] (defScope s_is_seat) 5 := ⟨by decide +kernel⟩
def isSeatB (L : Str) (d : D) : Bool := match d with
  | .tup [a, b, c] => (ltrB a L && ltrB b L) && inB c 0 40
  | _ => false
def fs_is_seat : FS := fun ds rt _ => ∃ L d, ds = [.str L, d] ∧ okX d ∧ rt (.bl (isSeatB L d))
theorem ok_is_seat {f : Addr} {fd : FuncData} {t : Tok} (nb : NB mg) (hS : mg "MOST_SEAT" = some (.int 40 t)) (d1 : Df P w K mg base cls "is_tuple" 1 ["thing", "least", "most"] fs_is_tuple) (d2 : Df P w K mg base cls "is_letter" 1 ["thing", "letters"] fs_is_letter) (d3 : Df P w K mg base cls "in_bounds" 2 ["thing", "least", "most"] fs_in_bounds)
    (F : Fun K "is_seat" "is_seat" s_is_seat f fd) : FnOk P w K mg base (L2N.CX P w) 3 f fd ["names", "row"] (spOf cls fs_is_seat) := by
  have hV := nv_sc_is_seat
  refine def_ok F sc_is_seat (fun ds rt ex h => ?_) (fun cdv A outer s H E W R ds rt ex hr h => ?_)
  · obtain ⟨_, _, rfl, _⟩ := h
    rfl
  · obtain ⟨L, d, rfl, hd, k⟩ := h
    have hN := sc_is_seat.nd
    refine wss_cons (ws_if (wt_not (wt_val (we_call d1 (hr.mono (by decide)) ?_))))
    repeat walk_at "v"
    refine ⟨d, _, _, rfl, okX_dat hd, _, rfl, fun e => ?_, fun e => ?_⟩
    · refine wss_one (ws_ret ?_)
      repeat walk_at "v"
      have : isSeatB L d = false := by
        unfold isSeatB
        split
        · exact Bool.noConfusion (show (!tupB (.tup [_, _, _]) 3 3) = true from e)
        · rfl
      rw [this] at k
      exact k
    · cases d <;> first | exact Bool.noConfusion e | skip
      obtain ⟨a, b, cc, rfl⟩ := tup3x (by simpa using e)
      obtain ⟨hlen, hx⟩ := okX_seq (.inr rfl) hd
      have oa := hx a (by simp)
      have ob := hx b (by simp)
      have oc := hx cc (by simp)
      have sb : isSeatB L (.tup [a, b, cc]) = ((ltrB a L && ltrB b L) && inB cc 0 40) := rfl
      rw [sb] at k
      refine wss_nil (wss_cons (ws_asg ?_))
      repeat walk_at "v"
      refine wg_tup rfl ⟨_, rfl, rfl, wg_name 2 hN rfl (wg_name 3 hN rfl (wg_name 4 hN rfl ?_))⟩
      refine wss_one (ws_ret (we_and (we_call d2 (hr.mono (by decide)) ?_)))
      repeat walk_at "v"
      refine ⟨a, L, rfl, okX_txt oa, _, rfl, fun e1 => ?_, fun e1 => ?_⟩
      · rw [e1] at k
        refine we_and (we_call d2 (hr.mono (by decide)) ?_)
        repeat walk_at "v"
        refine ⟨b, L, rfl, okX_txt ob, _, rfl, fun e2 => ?_, fun e2 => ?_⟩
        · rw [e2] at k
          refine we_one (we_call d3 (hr.mono (by decide)) ?_)
          repeat walk_at "v"
          refine we_gint hS ?_
          exact ⟨cc, _, _, rfl, okX_dat oc, k⟩
        · rw [e2] at k
          exact k
      · rw [e1] at k
        exact k
/-! ### is_kind -/
abbrev s_is_kind : Stmt := top 50
theorem sc_is_kind : FnScope ["words", "row", "name", "lag", "standings"] ["words", "row"] (defScope s_is_kind) := ⟨rfl, rfl, rfl, by decide +kernel, rfl, by decide +kernel, by decide +kernel⟩
theorem nv_sc_is_kind : NmOk ["words", "row", "name", "lag", "standings"] (defScope s_is_kind) 5 := ⟨by decide +kernel⟩
def isKindB (s : Nat) (d : D) : Bool := match d with
  | .tup [a, b, c] => (ltrB a CAPS && inB b 1 3) && isNon (wrongD s c)
  | _ => false
def fs_is_kind : FS := fun ds rt _ => ∃ z d, ds = [.str z, d] ∧ z.length ≤ 1000 ∧ okX d ∧ rt (.bl (isKindB (z.length + 1) d))
theorem ok_is_kind {f : Addr} {fd : FuncData} {t u : Tok} (nb : NB mg) (hS : mg "CAPITALS" = some (.str CAPS t)) (hL : mg "MOST_LAG" = some (.int 3 u)) (d1 : Df P w K mg base cls "is_tuple" 1 ["thing", "least", "most"] fs_is_tuple) (d2 : Df P w K mg base cls "is_letter" 1 ["thing", "letters"] fs_is_letter)
    (d3 : Df P w K mg base cls "in_bounds" 2 ["thing", "least", "most"] fs_in_bounds) (d4 : Df P w K mg base cls "wrong_standing" 4 ["words", "rows"] fs_wrong) (F : Fun K "is_kind" "is_kind" s_is_kind f fd) : FnOk P w K mg base (L2N.CX P w) 5 f fd ["words", "row"] (spOf cls fs_is_kind) := by
  have hV := nv_sc_is_kind
  refine def_ok F sc_is_kind (fun ds rt ex h => ?_) (fun cdv A outer s H E W R ds rt ex hr h => ?_)
  · obtain ⟨_, _, rfl, _⟩ := h
    rfl
  · obtain ⟨z, d, rfl, hz, hd, k⟩ := h
    have hN := sc_is_kind.nd
    refine wss_cons (ws_if (wt_not (wt_val (we_call d1 (hr.mono (by decide)) ?_))))
    repeat walk_at "v"
    refine ⟨d, _, _, rfl, okX_dat hd, _, rfl, fun e => ?_, fun e => ?_⟩
    · refine wss_one (ws_ret ?_)
      repeat walk_at "v"
      have : isKindB (z.length + 1) d = false := by
        unfold isKindB
        split
        · exact Bool.noConfusion (show (!tupB (.tup [_, _, _]) 3 3) = true from e)
        · rfl
      rw [this] at k
      exact k
    · cases d <;> first | exact Bool.noConfusion e | skip
      obtain ⟨a, b, cc, rfl⟩ := tup3x (by simpa using e)
      obtain ⟨hlen, hx⟩ := okX_seq (.inr rfl) hd
      have oa := hx a (by simp)
      have ob := hx b (by simp)
      have oc := hx cc (by simp)
      have sb : isKindB (z.length + 1) (.tup [a, b, cc]) = ((ltrB a CAPS && inB b 1 3) && isNon (wrongD (z.length + 1) cc)) := rfl
      rw [sb] at k
      refine wss_nil (wss_cons (ws_asg ?_))
      repeat walk_at "v"
      refine wg_tup rfl ⟨_, rfl, rfl, wg_name 2 hN rfl (wg_name 3 hN rfl (wg_name 4 hN rfl ?_))⟩
      refine wss_cons (ws_if (wt_wp (wp_or (wt_not (wt_val (we_call d2 (hr.mono (by decide)) ?_))))))
      repeat walk_at "v"
      refine we_gstr hS ?_
      refine ⟨a, _, rfl, okX_txt oa, _, rfl, fun e1 => ?_, fun e1 => ?_⟩
      · refine ⟨fun _ => wss_one (ws_ret ?_), fun z => Bool.noConfusion z⟩
        repeat walk_at "v"
        have e1 : ltrB a CAPS = false := by simpa using e1
        rw [e1] at k
        exact k
      · have e1 : ltrB a CAPS = true := by simpa using e1
        rw [e1] at k
        refine wp_or1 (wt_not (wt_val (we_call d3 (hr.mono (by decide)) ?_)))
        repeat walk_at "v"
        refine we_gint hL ?_
        refine ⟨b, _, _, rfl, okX_dat ob, _, rfl, fun e2 => ?_, fun e2 => ?_⟩
        · refine wss_one (ws_ret ?_)
          repeat walk_at "v"
          have e2 : inB b 1 3 = false := by simpa using e2
          rw [e2] at k
          exact k
        · have e2 : inB b 1 3 = true := by simpa using e2
          rw [e2] at k
          refine wss_nil (wss_one (ws_ret (we_isN (we_call d4 (hr.mono (by decide)) ?_))))
          repeat walk_at "v"
          refine ⟨z, cc, rfl, hz, oc, ?_⟩
          repeat walk_at "v"
          exact ⟨rfl, k⟩
end
section
set_option maxHeartbeats 4000000
open PySem PySem.Spec PyProof.Rows L2 Vl
variable {cls : Nat → Addr} {P : Program} {w : World} {K : PySem.W.Frag} {mg : Str → Option Value} {base : Heap}
/-! ### check_kinds -/
abbrev s_check_kinds : Stmt := top 51
theorem sc_check_kinds : FnScope ["words", "rows", "at", "row", "names", "name"] ["words", "rows"] (defScope s_check_kinds) := ⟨rfl, rfl, rfl, by decide +kernel, rfl, by decide +kernel, by decide +kernel⟩
theorem nv_sc_check_kinds : NmOk ["words", "rows", "at", "row", "names", "name"] (defScope s_check_kinds) 6 := ⟨by decide +kernel⟩
/-- the first place where p fails -/
def firstBad (p : D → Bool) (xs : List D) (i : Nat) : Prop := (∀ (j : Nat) x, j < i → xs[j]? = some x → p x = true) ∧ ∃ x, xs[i]? = some x ∧ p x = false
def nameS : D → Str
  | .tup (.str z :: _) => z
  | _ => ("" : Str)
/-- the first name that has come before -/
def firstTwice (l : List Str) (i : Nat) (n : Str) : Prop := l[i]? = some n ∧ n ∈ l.take i ∧ ∀ (j : Nat) m, j < i → l[j]? = some m → m ∉ l.take j
abbrev xKind (i : Int) : Xd := ⟨6, [("number", .int i)]⟩
abbrev xTwice (n : Str) : Xd := ⟨11, [("name", .str n)]⟩
/-- rows of kinds that are as told -/
def kindsB (s : Nat) (d : D) : Prop := ∃ xs, d = .tup xs ∧ tupB d 1 4 = true ∧ (∀ x ∈ xs, isKindB s x = true) ∧ (xs.map nameS).Nodup
@[irreducible] def fs_check_kinds : FS := fun ds rt ex => ∃ z d, ds = [.str z, d] ∧ z.length ≤ 1000 ∧ okX d ∧ (tupB d 1 4 = false → ex (xKind (-1))) ∧
  (∀ xs, d = .tup xs → tupB d 1 4 = true → (∀ i : Nat, firstBad (isKindB (z.length + 1)) xs i → ex (xKind i)) ∧
    ((∀ x ∈ xs, isKindB (z.length + 1) x = true) → ∀ i n, firstTwice (xs.map nameS) i n → ex (xTwice n))) ∧ (kindsB (z.length + 1) d → rt .non)
theorem ltr_one {d : D} {L : Str} (h : ltrB d L = true) : ∃ n, d = .str (one n) ∧ n ∈ L.cps.toList := by
  cases d <;> first | exact Bool.noConfusion h | skip
  rename_i z
  rw [ltrB_str] at h
  match e : z.cps.toList with
  | [n] =>
    rw [e] at h
    exact ⟨n, by rw [str_one e], of_decide_eq_true h⟩
  | [] => rw [e] at h; cases h
  | _ :: _ :: _ => rw [e] at h; cases h
theorem isKind_inv {s : Nat} {d : D} (h : isKindB s d = true) : ∃ a b c, d = .tup [.str (one a), b, c] ∧ a ∈ capitals ∧ inB b 1 3 = true ∧ isNon (wrongD s c) = true := by
  unfold isKindB at h
  split at h
  · rename_i a b c
    simp only [Bool.and_eq_true] at h
    obtain ⟨n, rfl, hn⟩ := ltr_one h.1.1
    exact ⟨n, b, c, rfl, hn, h.1.2, h.2⟩
  · cases h
theorem cut_take {ds : List D} {i : Nat} (h : i ≤ ds.length) : Vl.cutD ds none (some (i : Int)) = ds.take i := by
  unfold Vl.cutD HT.sIx
  simp
  rw [if_neg (by omega)]
  simp
theorem ok_check_kinds {f : Addr} {fd : FuncData} {t : Tok} (nb : NB mg) (hS : mg "MOST_KINDS" = some (.int 4 t)) (d1 : Df P w K mg base cls "is_tuple" 1 ["thing", "least", "most"] fs_is_tuple) (d2 : Df P w K mg base cls "is_kind" 5 ["words", "row"] fs_is_kind)
    (x1 : Er P w K mg base cls "BadKind" 6 ["number"]) (x2 : Er P w K mg base cls "Twice" 11 ["name"]) (F : Fun K "check_kinds" "check_kinds" s_check_kinds f fd) : FnOk P w K mg base (L2N.CX P w) 6 f fd ["words", "rows"] (spOf cls fs_check_kinds) := by
  have hV := nv_sc_check_kinds
  refine def_ok F sc_check_kinds (fun ds rt ex h => ?_) (fun cdv A outer s H E W R ds rt ex hr h => ?_)
  · unfold fs_check_kinds at h
    obtain ⟨_, _, rfl, _⟩ := h
    rfl
  · unfold fs_check_kinds at h
    obtain ⟨z, d, rfl, hz, hd, k1, k2, k3⟩ := h
    have hN := sc_check_kinds.nd
    refine wss_cons (ws_if (wt_not (wt_val (we_call d1 (hr.mono (by decide)) ?_))))
    repeat walk_at "v"
    refine we_gint hS ?_
    refine ⟨d, _, _, rfl, okX_dat hd, _, rfl, fun e => ?_, fun e => ?_⟩
    · refine wss_one (ws_raise (we_mkx x1 (hr.mono (by decide)) ?_))
      repeat walk_at "v"
      refine ⟨_, rfl, k1 (by simpa using e)⟩
    · replace e : tupB d 1 4 = true := by simpa using e
      cases d <;> first | exact Bool.noConfusion e | skip
      rename_i xs
      obtain ⟨k2, k4⟩ := k2 xs rfl e
      have e' : (decide ((1 : Int) ≤ (xs.length : Int)) && decide ((xs.length : Int) ≤ 4)) = true := e
      simp at e'
      obtain ⟨_, hx⟩ := okX_seq (.inr rfl) hd
      refine wss_nil (wss_cons (ws_for rfl (wi_enumT (nb _ (by decide)) ?_)))
      repeat walk_at "v"
      refine ⟨xs, rfl, fun i ρ' => (∀ (j : Nat) x, j < i → xs[j]? = some x → isKindB (z.length + 1) x = true) ∧ ∃ o1 o2, ρ' = [some (.val (.str z)), some (.val (.tup xs)), o1, o2, none, none], ⟨fun j n h => absurd h (Nat.not_lt_zero _), none, none, rfl⟩, fun i d ρ' hi hI => ?_, fun ρ' hI => ?_⟩
      · obtain ⟨x, hxi, rfl⟩ := enum_get hi
        obtain ⟨hI, o1, o2, rfl⟩ := hI
        refine wg_tup rfl ⟨_, rfl, rfl, wg_name 2 hN rfl (wg_name 3 hN rfl ?_)⟩
        refine wss_one (ws_if (wt_not (wt_val (we_call d2 hr ?_))))
        repeat walk_at "v"
        refine ⟨z, x, rfl, hz, hx x (List.mem_of_getElem? hxi), _, rfl, fun e1 => ?_, fun e1 => ?_⟩
        · refine wss_one (ws_raise (we_mkx x1 (hr.mono (by decide)) ?_))
          repeat walk_at "v"
          exact k2 i ⟨hI, x, hxi, by simpa using e1⟩
        · refine wss_nil ⟨fun j y hj hy => ?_, _, _, rfl⟩
          by_cases hji : j < i
          · exact hI j y hji hy
          · have : j = i := by omega
            subst this
            rw [hxi] at hy
            cases hy
            simpa using e1
      · obtain ⟨hI, o1, o2, rfl⟩ := hI
        have hg : ∀ x ∈ xs, isKindB (z.length + 1) x = true := fun x hx => by
          obtain ⟨j, hj⟩ := List.getElem?_of_mem hx
          exact hI j x (by rw [enumD_length]; exact (List.getElem?_eq_some_iff.mp hj).1) hj
        have k4 := k4 hg
        refine wss_cons (ws_lc 4 3 hN (LC.map (wi_tup ?_)))
        repeat walk_at "v"
        refine ⟨xs, rfl, by omega, fun i x y => y = .str (nameS x), fun i x hi => ⟨_, rfl, fun s0 H0 C cl fp => ?_⟩, fun acc a1 a2 => .inl ?_⟩
        · obtain ⟨a, b, c, rfl, _⟩ := isKind_inv (hg x (List.mem_of_getElem? hi))
          refine we_ix ?_
          repeat walk_at "v"
          exact ⟨_, _, rfl, item_tup (i := 0) rfl, rfl⟩
        have ea : acc = (xs.map nameS).map D.str := by
          rw [acc_map (g := fun x => .str (nameS x)) a1 (fun i d y h1 h2 => a2 i d y h1 h2), List.map_map]
          rfl
        subst ea
        generalize hl : xs.map nameS = l at k4
        refine wss_one (ws_for rfl (wi_enumL (nb _ (by decide)) ?_))
        repeat walk_at "v"
        refine ⟨l.map D.str, rfl, fun i ρ' => (∀ (j : Nat) m, j < i → l[j]? = some m → m ∉ l.take j) ∧ ∃ o1 o2 o3, ρ' = [some (.val (.str z)), some (.val (.tup xs)), o1, o2, some (.val (.lst (l.map D.str))), o3], ⟨fun j n h => absurd h (Nat.not_lt_zero _), _, _, _, rfl⟩, fun i d ρ' hi hI => ?_, fun ρ' hI => ?_⟩
        · obtain ⟨x, hxi, rfl⟩ := enum_get hi
          obtain ⟨hI, o1, o2, o3, rfl⟩ := hI
          rw [List.getElem?_map] at hxi
          cases el : l[i]? with
          | none => rw [el] at hxi; cases hxi
          | some n =>
            rw [el] at hxi
            cases hxi
            have hil := (List.getElem?_eq_some_iff.mp el).1
            refine wg_tup rfl ⟨_, rfl, rfl, wg_name 2 hN rfl (wg_name 5 hN rfl ?_)⟩
            refine wss_one (ws_if (wt_inL ?_))
            repeat walk_at "v"
            refine we_sliceL ?_
            repeat walk_at "v"
            refine ⟨l.map D.str, rfl, ?_⟩
            repeat walk_at "v"
            refine ⟨(i : Nat), rfl, ?_⟩
            show FInL false (.str n) (.lst (Vl.cutD (l.map D.str) none (some (i : Int)))) _
            rw [cut_take (by rw [List.length_map]; omega), ← List.map_take]
            refine ⟨n, l.take i, rfl, .inl rfl, _, rfl, fun e1 => ?_, fun e1 => ?_⟩
            · refine wss_one (ws_raise (we_mkx x2 (hr.mono (by decide)) ?_))
              repeat walk_at "v"
              exact k4 i n ⟨el, of_decide_eq_true e1, hI⟩
            · refine wss_nil ⟨fun j m hj hm => ?_, _, _, _, rfl⟩
              by_cases hji : j < i
              · exact hI j m hji hm
              · have : j = i := by omega
                subst this
                rw [el] at hm
                cases hm
                exact of_decide_eq_false e1
        · obtain ⟨hI, o1, o2, o3, rfl⟩ := hI
          refine k3 ⟨xs, rfl, e, hg, ?_⟩
          rw [hl]
          rw [enumD_length, List.length_map] at hI
          rw [List.Nodup, List.pairwise_iff_getElem]
          intro a b ha hb hab heq
          refine hI b l[b] hb (List.getElem?_eq_getElem hb) ?_
          rw [← heq, List.mem_take_iff_getElem]
          exact ⟨a, by omega, rfl⟩
end
section
set_option maxHeartbeats 4000000
open PySem PySem.Spec PyProof.Rows L2 Vl
variable {cls : Nat → Addr} {P : Program} {w : World} {K : PySem.W.Frag} {mg : Str → Option Value} {base : Heap}
/-! ### check_seats -/
abbrev s_check_seats : Stmt := top 53
theorem sc_check_seats : FnScope ["names", "rows", "taken", "at", "row"] ["names", "rows"] (defScope s_check_seats) := ⟨rfl, rfl, rfl, by decide +kernel, rfl, by decide +kernel, by decide +kernel⟩
theorem nv_sc_check_seats : NmOk ["names", "rows", "taken", "at", "row"] (defScope s_check_seats) 5 := ⟨by decide +kernel⟩
/-- the first two of a row -/
def keyOf : D → List L2.Key
  | .tup [.str a, .str b, _] => [.inr a, .inr b]
  | _ => []
abbrev xSeat (i : Int) : Xd := ⟨7 + 1, [("number", .int i)]⟩
def badSeat (L : Str) (xs : List D) (i : Nat) (x : D) : Bool := !isSeatB L x || ((xs.take i).map keyOf).any fun k => decide (k = keyOf x)
theorem atK_any : ∀ (ks : List (List L2.Key)) (j : List L2.Key), (atK ks (ks.map fun _ => D.bl true) j).isSome = ks.any fun k => decide (k = j)
  | [], _ => rfl
  | k :: ks, j => by
    by_cases h : k = j
    · rw [List.map_cons, atK, if_pos h, List.any_cons, decide_eq_true h]
      rfl
    · rw [List.map_cons, atK, if_neg h, List.any_cons, decide_eq_false h, atK_any ks j, Bool.false_or]
theorem not_any {ks : List (List L2.Key)} {j : List L2.Key} (h : (ks.any fun k => decide (k = j)) = false) : j ∉ ks := fun m => by
  have := List.any_eq_false.mp h j m
  simp at this
/-- the first row that is no seat, or tells of a pair once more -/
def firstBS (L : Str) (xs : List D) (i : Nat) : Prop := (∀ (j : Nat) x, j < i → xs[j]? = some x → badSeat L xs j x = false) ∧ ∃ x, xs[i]? = some x ∧ badSeat L xs i x = true
/-- rows of seats that are as told -/
def seatsB (L : Str) (d : D) : Prop := ∃ xs, d = .tup xs ∧ ∀ (j : Nat) x, xs[j]? = some x → badSeat L xs j x = false
@[irreducible] def fs_check_seats : FS := fun ds rt ex => ∃ L d, ds = [.str L, d] ∧ okX d ∧ (isA "tuple" d = false → ex (xSeat (-1))) ∧
  (∀ xs, d = .tup xs → ∀ i : Nat, firstBS L xs i → ex (xSeat i)) ∧ (seatsB L d → rt .non)
theorem isSeat_inv {L : Str} {d : D} (h : isSeatB L d = true) : ∃ a b c, d = .tup [.str (one a), .str (one b), .int c] ∧ a ∈ L.cps.toList ∧ b ∈ L.cps.toList ∧ 0 ≤ c ∧ c ≤ 40 := by
  unfold isSeatB at h
  split at h
  · rename_i a b c
    simp only [Bool.and_eq_true] at h
    obtain ⟨n, rfl, hn⟩ := ltr_one h.1.1
    obtain ⟨m, rfl, hm⟩ := ltr_one h.1.2
    obtain ⟨v, rfl, h1, h2⟩ := inB_int h.2
    exact ⟨n, m, v, rfl, hn, hm, h1, h2⟩
  · cases h
theorem ok_check_seats {f : Addr} {fd : FuncData} (nb : NB mg) (d2 : Df P w K mg base cls "is_seat" 3 ["names", "row"] fs_is_seat) (x1 : Er P w K mg base cls "BadSeat" 8 ["number"])
    (F : Fun K "check_seats" "check_seats" s_check_seats f fd) : FnOk P w K mg base (L2N.CX P w) 4 f fd ["names", "rows"] (spOf cls fs_check_seats) := by
  have hV := nv_sc_check_seats
  refine def_ok F sc_check_seats (fun ds rt ex h => ?_) (fun cdv A outer s H E W R ds rt ex hr h => ?_)
  · unfold fs_check_seats at h
    obtain ⟨_, _, rfl, _⟩ := h
    rfl
  · unfold fs_check_seats at h
    obtain ⟨L, d, rfl, hd, k1, k2, k3⟩ := h
    have hN := sc_check_seats.nd
    refine wss_cons (ws_if (wt_not (wt_val ?_)))
    repeat walk_at "v"
    refine ⟨okX_dat hd, _, rfl, fun e => ?_, fun e => ?_⟩
    · refine wss_one (ws_raise (we_mkx x1 (hr.mono (by decide)) ?_))
      repeat walk_at "v"
      exact ⟨_, rfl, k1 (by simpa using e)⟩
    · replace e : isA "tuple" d = true := by simpa using e
      cases d <;> first | exact Bool.noConfusion e | skip
      rename_i xs
      have k2 := k2 xs rfl
      obtain ⟨hl, hx⟩ := okX_seq (.inr rfl) hd
      refine wss_nil (wx_beginT 2 hN rfl (by show 2 < 5; decide) ?_)
      refine wx_for2 3 4 hN rfl rfl rfl (wi_enumT (nb _ (by decide)) ?_)
      repeat walk_at "v"
      refine ⟨xs, rfl, fun i d' ρ' => d' = trues ((xs.take i).map keyOf) ∧ (∀ (j : Nat) x, j < i → xs[j]? = some x → badSeat L xs j x = false) ∧ ∃ o1 o2, ρ' = [some (.val (.str L)), some (.val (.tup xs)), none, o1, o2], ⟨rfl, fun j n h => absurd h (Nat.not_lt_zero _), none, none, rfl⟩, fun i z d' ρ' hi hI => ?_, fun d' ρ' hI => ?_⟩
      · obtain ⟨x, hxi, rfl⟩ := enum_get hi
        obtain ⟨rfl, hI, o1, o2, rfl⟩ := hI
        refine ⟨_, _, rfl, ?_⟩
        have bad : badSeat L xs i x = true → ex (xSeat i) := fun b => k2 i ⟨hI, x, hxi, b⟩
        have good : badSeat L xs i x = false → ∀ (j : Nat) y, j < i + 1 → xs[j]? = some y → badSeat L xs j y = false := fun b j y hj hy => by
          by_cases hji : j < i
          · exact hI j y hji hy
          · have : j = i := by omega
            subst this
            rw [hxi] at hy
            cases hy
            exact b
        refine wx_ifD (wt_wp (wp_or (wt_not (wt_val (we_call d2 (hr.mono (by decide)) ?_)))))
        repeat walk_at "v"
        refine ⟨L, x, rfl, hx x (List.mem_of_getElem? hxi), _, rfl, fun e1 => ?_, fun e1 => ?_⟩
        · refine ⟨fun _ => wss_one (ws_raise (we_mkx x1 (hr.mono (by decide)) ?_)), fun z => Bool.noConfusion z⟩
          repeat walk_at "v"
          refine bad ?_
          unfold badSeat
          have e1 : isSeatB L x = false := by simpa using e1
          rw [e1]
          rfl
        · have e1 : isSeatB L x = true := by simpa using e1
          obtain ⟨a, b, cc, rfl, _⟩ := isSeat_inv e1
          refine wp_or1 (wt_inT hr (we_sliceT ?_))
          repeat walk_at "v"
          refine ⟨_, rfl, ?_⟩
          repeat walk_at "v"
          refine ⟨2, rfl, [.inr (one a), .inr (one b)], rfl, ?_⟩
          repeat walk_at "v"
          refine ⟨_, _, rfl, ?_⟩
          rw [atK_any]
          refine ⟨fun e2 => wss_one (ws_raise (we_mkx x1 (hr.mono (by decide)) ?_)), fun e2 => ?_⟩
          · repeat walk_at "v"
            refine bad ?_
            unfold badSeat
            rw [e1]
            exact e2
          · refine wx_putT hr rfl ?_
            repeat walk_at "v"
            refine ⟨rfl, we_sliceT ?_⟩
            repeat walk_at "v"
            refine ⟨_, rfl, ?_⟩
            repeat walk_at "v"
            refine ⟨2, rfl, [.inr (one a), .inr (one b)], rfl, not_any e2, ?_, ?_⟩
            · rw [List.length_map, List.length_take]
              have := (List.getElem?_eq_some_iff.mp hxi).1
              omega
            · refine wx_nil ⟨?_, good ?_, _, _, rfl⟩
              · have tk : xs.take (i + 1) = xs.take i ++ [.tup [.str (one a), .str (one b), .int cc]] := by
                  rw [List.take_add_one, hxi]
                  rfl
                rw [tk, List.map_append]
                rfl
              · unfold badSeat
                rw [e1]
                exact e2
      · obtain ⟨rfl, hI, o1, o2, rfl⟩ := hI
        refine wx_drop (wss_nil (k3 ⟨xs, rfl, fun j x hx => hI j x ?_ hx⟩))
        rw [enumD_length]
        exact (List.getElem?_eq_some_iff.mp hx).1
end
section
set_option maxHeartbeats 4000000
open PySem PySem.Spec PyProof.Rows L2 Vl
variable {cls : Nat → Addr} {P : Program} {w : World} {K : PySem.W.Frag} {mg : Str → Option Value} {base : Heap}
/-! ### what passes the checks -/
theorem map_ex {α β : Type} {f : α → β} {p : α → Prop} : ∀ {xs : List β}, (∀ x ∈ xs, ∃ a, x = f a ∧ p a) → ∃ as : List α, xs = as.map f ∧ ∀ a ∈ as, p a
  | [], _ => ⟨[], rfl, fun _ h => by cases h⟩
  | x :: xs, h => by
    obtain ⟨a, e, pa⟩ := h x List.mem_cons_self
    obtain ⟨as, e2, pas⟩ := map_ex fun y hy => h y (List.mem_cons_of_mem _ hy)
    exact ⟨a :: as, by rw [e, e2]; rfl, fun b hb => (List.mem_cons.mp hb).elim (fun z => z ▸ pa) (pas b)⟩
/-- rows of a drill over s signs -/
def okRows (s : Nat) (rows : List Row) : Prop := wrongD s (rowsT rows) = .non ∧ 1 ≤ rows.length ∧ rows.length ≤ 6 ∧ ∀ r ∈ rows, rowOk s rows.length r
theorem wrong_rows {s : Nat} {d : D} (h : isNon (wrongD s d) = true) : ∃ rows, d = rowsT rows ∧ okRows s rows := by
  cases d <;> first | exact Bool.noConfusion h | skip
  rename_i xs
  have hh := h
  rw [wrongD_tup] at h
  split at h
  · rename_i hl
    split at h
    · exact Bool.noConfusion h
    · rename_i hn
      have all := List.findIdx?_eq_none_iff.mp hn
      obtain ⟨rows, e, ok⟩ := map_ex (f := rowT) (p := rowOk s xs.length) fun x hx => by
        obtain ⟨i, hi⟩ := List.getElem?_of_mem hx
        have := all (x, i) (List.mem_zipIdx_iff_getElem?.mpr hi)
        have b : badAt s xs.length i x = false := by simpa using this
        unfold badAt at b
        have b := (Bool.or_eq_false_iff.mp b).1
        exact standB_row (by simpa using b)
      have el : xs.length = rows.length := by rw [e, List.length_map]
      refine ⟨rows, by rw [e], ?_, by omega, by omega, fun r hr => el ▸ ok r hr⟩
      rw [e] at hh
      cases ew : wrongD s (rowsT rows) with
      | non => rfl
      | _ => rw [show wrongD s (.tup (rows.map rowT)) = _ from ew] at hh; exact Bool.noConfusion hh
  · exact Bool.noConfusion h
def okKd (s : Nat) (k : Kd) : Prop := (∃ a, k.1 = one a ∧ a ∈ capitals) ∧ 1 ≤ k.2.1 ∧ k.2.1 ≤ 3 ∧ okRows s k.2.2
/-- kinds that are as told -/
def okKs (s : Nat) (ks : List Kd) : Prop := goodK ks ∧ ∀ k ∈ ks, okKd s k
theorem kinds_inv {s : Nat} {d : D} (h : kindsB s d) : ∃ ks : List Kd, d = .tup (ks.map kindT) ∧ okKs s ks := by
  obtain ⟨xs, rfl, ht, hk, nd⟩ := h
  have ht : (decide ((1 : Int) ≤ (xs.length : Int)) && decide ((xs.length : Int) ≤ 4)) = true := ht
  simp at ht
  obtain ⟨ks, e, ok⟩ := map_ex (f := kindT) (p := okKd s) fun x hx => by
    obtain ⟨a, b, c, rfl, ha, hb, hc⟩ := isKind_inv (hk x hx)
    obtain ⟨lag, rfl, l1, l3⟩ := inB_int hb
    obtain ⟨rows, rfl, hr⟩ := wrong_rows hc
    exact ⟨(one a, lag, rows), rfl, ⟨a, rfl, ha⟩, l1, l3, hr⟩
  subst e
  rw [List.length_map] at ht
  refine ⟨ks, rfl, ⟨by omega, by omega, ?_⟩, ok⟩
  obtain ⟨l, e, hl⟩ := map_ex (f := one) (p := fun n => n ∈ capitals) (xs := ks.map (·.1)) fun x hx => by
    obtain ⟨k, hk, rfl⟩ := List.mem_map.mp hx
    exact (ok k hk).1
  refine ⟨l, ?_, hl, e⟩
  rw [List.map_map, show (nameS ∘ kindT) = fun k : Kd => k.1 from rfl, e] at nd
  exact (List.pairwise_map.mp nd).imp fun h z => h (by rw [z])
def seatKey (s : Se) : List L2.Key := [.inr s.1, .inr s.2.1]
def okSe (L : Str) (s : Se) : Prop := ∃ a b, s.1 = one a ∧ s.2.1 = one b ∧ a ∈ L.cps.toList ∧ b ∈ L.cps.toList ∧ 0 ≤ s.2.2 ∧ s.2.2 ≤ 40
/-- seats that are as told -/
def okSs (L : Str) (ss : List Se) : Prop := (∀ s ∈ ss, okSe L s) ∧ (ss.map seatKey).Nodup
theorem seats_inv {L : Str} {d : D} (h : seatsB L d) : ∃ ss : List Se, d = .tup (ss.map seatT) ∧ okSs L ss := by
  obtain ⟨xs, rfl, h⟩ := h
  have h1 : ∀ (j : Nat) x, xs[j]? = some x → isSeatB L x = true ∧ keyOf x ∉ (xs.take j).map keyOf := fun j x hx => by
    have := h j x hx
    unfold badSeat at this
    rw [Bool.or_eq_false_iff] at this
    exact ⟨by simpa using this.1, not_any this.2⟩
  obtain ⟨ss, e, ok⟩ := map_ex (f := seatT) (p := okSe L) (xs := xs) fun x hx => by
    obtain ⟨i, hi⟩ := List.getElem?_of_mem hx
    obtain ⟨a, b, c, rfl, ha, hb, c0, c4⟩ := isSeat_inv (h1 i x hi).1
    exact ⟨(one a, one b, c), rfl, a, b, rfl, rfl, ha, hb, c0, c4⟩
  subst e
  refine ⟨ss, rfl, ok, ?_⟩
  rw [List.Nodup, List.pairwise_iff_getElem]
  intro i j hi hj hij heq
  rw [List.length_map] at hi hj
  rw [List.getElem_map, List.getElem_map] at heq
  refine (h1 j (seatT ss[j]) (by rw [List.getElem?_map, List.getElem?_eq_getElem hj]; rfl)).2 ?_
  rw [show keyOf (seatT ss[j]) = seatKey ss[j] from rfl, ← heq, ← List.map_take, List.map_map]
  exact List.mem_map.mpr ⟨ss[i], List.mem_take_iff_getElem.mpr ⟨i, by omega, rfl⟩, rfl⟩
end
section
set_option maxHeartbeats 4000000
open PySem PySem.Spec PyProof.Rows L2 Vl
variable {cls : Nat → Addr} {P : Program} {w : World} {K : PySem.W.Frag} {mg : Str → Option Value} {base : Heap}
/-! ### frozen of an empty tuple of the module -/
def fs_frozenE (K : PySem.W.Frag) : FS := fun ds rt _ => ∃ a, ds = [.adr a] ∧ KEmp K a ∧ rt (.tup [])
theorem ok_frozenE {f : Addr} {fd : FuncData} (nb : NB mg) (F : Fun K "frozen" "frozen" s_frozen f fd) : FnOk P w K mg base (L2N.CX P w) 1 f fd ["thing"] (spOf cls (fs_frozenE K)) := by
  have hV := nv_sc_frozen
  refine def_ok F sc_frozen (fun ds rt ex h => ?_) (fun cdv A outer s H E W R ds rt ex hr h => ?_)
  · obtain ⟨_, rfl, _⟩ := h
    rfl
  · obtain ⟨a, rfl, ke, k⟩ := h
    have hN := sc_frozen.nd
    refine wss_cons (ws_if (wt_val (we_isiE nb ?_)))
    refine we_val (i := 0) rfl rfl ?_
    refine we_tup ?_
    refine we_ty (n := "list") (nb _ (by decide)) ?_
    refine we_ty (n := "tuple") (nb _ (by decide)) ?_
    refine ⟨a, _, [.type "list", .type "tuple"], true, rfl, rfl, ke, rfl, ?_, _, rfl, fun _ => ?_, fun e => Bool.noConfusion e⟩
    · show PySem.W.kitAny K (.type "tuple") [.type "list", .type "tuple"] = some true
      unfold PySem.W.kitAny
      rw [show PySem.W.kitOne K (.type "tuple") (.type "list") = some false from kit_ty (by decide +kernel)]
      show PySem.W.kitAny K (.type "tuple") [.type "tuple"] = some true
      unfold PySem.W.kitAny
      rw [show PySem.W.kitOne K (.type "tuple") (.type "tuple") = some true from kit_ty (by decide +kernel)]
    · refine wss_one (ws_ret ?_)
      repeat walk_at "v"
      refine we_lc 1 hN (LC.map (wi_emp ?_))
      repeat walk_at "v"
      refine ⟨a, rfl, ke, by simp, fun i x y => False, fun i x hi => by simp at hi, fun acc e1 e2 => ?_⟩
      have : acc = [] := List.length_eq_zero_iff.mp e1
      subst this
      exact ⟨[], .inl rfl, k⟩
/-! ### Make -/
abbrev k_init : Stmt := inClass (top 54) 0
abbrev k_eq : Stmt := inClass (top 54) 5
abbrev k_names : Stmt := inClass (top 54) 6
abbrev k_lag : Stmt := inClass (top 54) 7
abbrev k_seat : Stmt := inClass (top 54) 8
abbrev k_body : Stmt := inClass (top 54) 9
abbrev k_check : Stmt := inClass (top 54) 11
theorem sk_init : FnScope ["self", "words", "kinds", "space", "seats", "rows", "names", "places", "row"] ["self", "words", "kinds", "space", "seats"] (defScope k_init) := ⟨rfl, rfl, rfl, by decide +kernel, rfl, by decide +kernel, by decide +kernel⟩
theorem sk_eq : FnScope ["self", "other"] ["self", "other"] (defScope k_eq) := ⟨rfl, rfl, rfl, by decide +kernel, rfl, by decide +kernel, by decide +kernel⟩
theorem nv_sk_eq : NmOk ["self", "other"] (defScope k_eq) 2 := ⟨by decide +kernel⟩
theorem sk_names : FnScope ["self"] ["self"] (defScope k_names) := ⟨rfl, rfl, rfl, by decide +kernel, rfl, by decide +kernel, by decide +kernel⟩
theorem nv_sk_names : NmOk ["self"] (defScope k_names) 1 := ⟨by decide +kernel⟩
theorem sk_lag : FnScope ["self", "name"] ["self", "name"] (defScope k_lag) := ⟨rfl, rfl, rfl, by decide +kernel, rfl, by decide +kernel, by decide +kernel⟩
theorem nv_sk_lag : NmOk ["self", "name"] (defScope k_lag) 2 := ⟨by decide +kernel⟩
theorem sk_seat : FnScope ["self", "ahead", "behind"] ["self", "ahead", "behind"] (defScope k_seat) := ⟨rfl, rfl, rfl, by decide +kernel, rfl, by decide +kernel, by decide +kernel⟩
theorem nv_sk_seat : NmOk ["self", "ahead", "behind"] (defScope k_seat) 3 := ⟨by decide +kernel⟩
theorem sk_body : FnScope ["self", "name"] ["self", "name"] (defScope k_body) := ⟨rfl, rfl, rfl, by decide +kernel, rfl, by decide +kernel, by decide +kernel⟩
theorem nv_sk_body : NmOk ["self", "name"] (defScope k_body) 2 := ⟨by decide +kernel⟩
theorem sk_check : FnScope ["self", "name"] ["self", "name"] (defScope k_check) := ⟨rfl, rfl, rfl, by decide +kernel, rfl, by decide +kernel, by decide +kernel⟩
theorem nv_sk_check : NmOk ["self", "name"] (defScope k_check) 2 := ⟨by decide +kernel⟩
/-- what the text says of the class -/
structure MkC (K : PySem.W.Frag) (C : Addr) : Prop where
  cl : Cls K C
  nW : NoAttr K C "words"
  nK : NoAttr K C "kinds"
  nSp : NoAttr K C "space"
  nSe : NoAttr K C "seats"
  nN : NoAttr K C "_names"
  nKo : NoAttr K C "_kind_of"
  nP : NoAttr K C "_paces"
def kindKeys (ks : List Kd) : List L2.Key := ks.map fun k => .inr k.1
abbrev makF (z : Str) (ks : List Kd) (sp : Int) (ss : List Se) (nm : Str) : List (Str × D) :=
  [("words", .str z), ("kinds", .tup (ks.map kindT)), ("space", .int sp), ("seats", .tup (ss.map seatT)), ("_names", .str nm), ("_kind_of", .dic (kindKeys ks) (ks.map kindT)), ("_paces", .dit (ss.map seatKey) (ss.map fun s => .int s.2.2))]
/-- a make -/
def mak (z : Str) (ks : List Kd) (sp : Int) (ss : List Se) (nm : Str) : D := .obj 26 (makF z ks sp ss nm)
abbrev xSpace (d : D) : Xd := ⟨7, [("space", d)]⟩
/-- what is due of a make, its parts passed as data: rt the make, ex what is raised -/
def dueMake (dw dk dsp dse : D) (rt : Str → List Kd → Int → List Se → Str → Prop) (ex : Xd → Prop) : Prop :=
  (wordsB dw = false → ex ⟨2, [("words", dw)]⟩) ∧ ∀ z, dw = .str z → wordsB dw = true →
    (tupB (tupled dk) 1 4 = false → ex (xKind (-1))) ∧
    (∀ xs, tupled dk = .tup xs → tupB (tupled dk) 1 4 = true → (∀ i : Nat, firstBad (isKindB (z.length + 1)) xs i → ex (xKind i)) ∧ ((∀ x ∈ xs, isKindB (z.length + 1) x = true) → ∀ i n, firstTwice (xs.map nameS) i n → ex (xTwice n))) ∧
    (∀ ks, tupled dk = .tup (ks.map kindT) → okKs (z.length + 1) ks → (inB dsp 0 20 = false → ex (xSpace dsp)) ∧ ∀ sp nm, dsp = .int sp → 0 ≤ sp → sp ≤ 20 → allN ks nm →
      (isA "tuple" (tupled dse) = false → ex (xSeat (-1))) ∧ (∀ xs, tupled dse = .tup xs → ∀ i : Nat, firstBS nm xs i → ex (xSeat i)) ∧ ∀ ss, tupled dse = .tup (ss.map seatT) → okSs nm ss → rt z ks sp ss nm)
@[irreducible] def fi_make (K : PySem.W.Frag) : FI := fun ds rt ex => ∃ dw dk dsp dse, ds = [dw, dk, dsp, dse] ∧ txtOk dw ∧ okD 6 dk ∧ dat dsp = true ∧ (okD 6 dse ∨ ∃ a, dse = .adr a ∧ KEmp K a) ∧ dueMake dw dk dsp dse (fun z ks sp ss nm => rt (makF z ks sp ss nm)) ex
end
section
set_option maxHeartbeats 4000000
open PySem PySem.Spec PyProof.Rows L2 Vl
variable {cls : Nat → Addr} {P : Program} {w : World} {K : PySem.W.Frag} {mg : Str → Option Value} {base : Heap}
/-! ### == of what a make is made of -/
theorem eqv_listG {α : Type} [DecidableEq α] {g : α → D} (hg : ∀ r q, PyData.eqv (pyOf (g r)) (pyOf (g q)) = decide (r = q)) : ∀ xs ys : List α, PyData.eqvAll (pyOfL (xs.map g)) (pyOfL (ys.map g)) = decide (xs = ys)
  | [], [] => by simp [pyOfL, PyData.eqvAll]
  | [], y :: ys => by simp [pyOfL, PyData.eqvAll]
  | x :: xs, [] => by simp [pyOfL, PyData.eqvAll]
  | x :: xs, y :: ys => by
    simp only [List.map_cons, pyOfL, PyData.eqvAll, hg, eqv_listG hg xs ys]
    rw [Bool.eq_iff_iff]
    simp
theorem eqv_str (a b : Str) : PyData.eqv (pyOf (.str a)) (pyOf (.str b)) = decide (a = b) := by
  rw [pyOf, pyOf, PyData.eqv, str_beq]
theorem eqv_rows (a b : List Row) : PyData.eqv (pyOf (rowsT a)) (pyOf (rowsT b)) = decide (a = b) := rowsEq_iff a b
theorem eqv_int (a b : Int) : PyData.eqv (pyOf (.int a)) (pyOf (.int b)) = decide (a = b) := by
  simp only [pyOf, PyData.eqv]
  rw [Bool.eq_iff_iff]
  simp
theorem eqv_kind (k q : Kd) : PyData.eqv (pyOf (kindT k)) (pyOf (kindT q)) = decide (k = q) := by
  obtain ⟨a, b, c⟩ := k
  obtain ⟨a', b', c'⟩ := q
  unfold kindT
  rw [show pyOf (.tup [.str a, .int b, rowsT c]) = .tuple (pyOfL [.str a, .int b, rowsT c]) by rw [pyOf], show pyOf (.tup [.str a', .int b', rowsT c']) = .tuple (pyOfL [.str a', .int b', rowsT c']) by rw [pyOf]]
  rw [pyOfL, pyOfL, pyOfL, pyOfL, pyOfL, pyOfL, pyOfL, pyOfL, PyData.eqv, PyData.eqvAll, PyData.eqvAll, PyData.eqvAll, PyData.eqvAll, eqv_str, eqv_int, eqv_rows]
  rw [Bool.eq_iff_iff]
  simp
theorem eqv_seat (k q : Se) : PyData.eqv (pyOf (seatT k)) (pyOf (seatT q)) = decide (k = q) := by
  obtain ⟨a, b, c⟩ := k
  obtain ⟨a', b', c'⟩ := q
  unfold seatT
  rw [show pyOf (.tup [.str a, .str b, .int c]) = .tuple (pyOfL [.str a, .str b, .int c]) by rw [pyOf], show pyOf (.tup [.str a', .str b', .int c']) = .tuple (pyOfL [.str a', .str b', .int c']) by rw [pyOf]]
  rw [pyOfL, pyOfL, pyOfL, pyOfL, pyOfL, pyOfL, pyOfL, pyOfL, PyData.eqv, PyData.eqvAll, PyData.eqvAll, PyData.eqvAll, PyData.eqvAll, eqv_str, eqv_str, eqv_int]
  rw [Bool.eq_iff_iff]
  simp
theorem eqB_kinds (a b : List Kd) : eqB (.tup (a.map kindT)) (.tup (b.map kindT)) = decide (a = b) := by
  unfold eqB
  rw [pyOf, pyOf, PyData.eqv]
  exact eqv_listG eqv_kind a b
theorem eqB_seats (a b : List Se) : eqB (.tup (a.map seatT)) (.tup (b.map seatT)) = decide (a = b) := by
  unfold eqB
  rw [pyOf, pyOf, PyData.eqv]
  exact eqv_listG eqv_seat a b
/-- a text that == may be asked about -/
def codeOk (z : Str) : Prop := z.length ≤ 1000 ∧ ∀ n ∈ z.cps.toList, n < 0x110000
theorem lay_str {z : Str} (h : codeOk z) : PyData.canLay0 (pyOf (.str z)) = true ∧ PyData.depth (pyOf (.str z)) = 0 := by
  have e : (z.cps.all fun c => decide (c < 0x110000)) = true := by
    rw [← Array.all_toList, List.all_eq_true]
    intro n hn
    exact decide_eq_true (h.2 n hn)
  rw [pyOf, PyData.canLay0, PyData.depth]
  exact ⟨e, rfl⟩
theorem lay_listG {α : Type} {g : α → D} {p : α → Prop} {m : Nat} (hg : ∀ a, p a → PyData.canLay0 (pyOf (g a)) = true ∧ PyData.depth (pyOf (g a)) ≤ m) : ∀ xs : List α, (∀ x ∈ xs, p x) → PyData.canLayAll0 (pyOfL (xs.map g)) = true ∧ PyData.depthAll (pyOfL (xs.map g)) ≤ m
  | [], _ => by simp [pyOfL, PyData.canLayAll0, PyData.depthAll]
  | x :: xs, h => by
    obtain ⟨h1, h2⟩ := lay_listG hg xs fun y hy => h y (List.mem_cons_of_mem _ hy)
    obtain ⟨h3, h4⟩ := hg x (h x List.mem_cons_self)
    simp only [List.map_cons, pyOfL, PyData.canLayAll0, PyData.depthAll, h1, h3]
    refine ⟨rfl, ?_⟩
    omega
theorem lay_rowsT (rows : List Row) : PyData.canLay0 (pyOf (rowsT rows)) = true ∧ PyData.depth (pyOf (rowsT rows)) ≤ 3 := by
  obtain ⟨h1, h2⟩ := lay_list lay_rowT rows
  rw [pyOf, PyData.canLay0, PyData.depth, h1]
  exact ⟨rfl, by omega⟩
/-- a kind that == may be asked about -/
def eqKd (k : Kd) : Prop := codeOk k.1 ∧ smallRows k.2.2
def eqSe (s : Se) : Prop := codeOk s.1 ∧ codeOk s.2.1
theorem lay_kind {k : Kd} (h : eqKd k) : PyData.canLay0 (pyOf (kindT k)) = true ∧ PyData.depth (pyOf (kindT k)) ≤ 4 := by
  obtain ⟨h1, h2⟩ := lay_str h.1
  obtain ⟨h3, h4⟩ := lay_rowsT k.2.2
  unfold kindT
  rw [show pyOf (.tup [.str k.1, .int k.2.1, rowsT k.2.2]) = .tuple (pyOfL [.str k.1, .int k.2.1, rowsT k.2.2]) by rw [pyOf]]
  rw [pyOfL, pyOfL, pyOfL, pyOfL, PyData.canLay0, PyData.canLayAll0, PyData.canLayAll0, PyData.canLayAll0, PyData.canLayAll0, PyData.depth, PyData.depthAll, PyData.depthAll, PyData.depthAll, PyData.depthAll, h1, h2, h3]
  simp only [pyOf, PyData.canLay0, PyData.depth] at h4 ⊢
  exact ⟨rfl, by omega⟩
theorem lay_seat {s : Se} (h : eqSe s) : PyData.canLay0 (pyOf (seatT s)) = true ∧ PyData.depth (pyOf (seatT s)) ≤ 4 := by
  obtain ⟨h1, h2⟩ := lay_str h.1
  obtain ⟨h3, h4⟩ := lay_str h.2
  unfold seatT
  rw [show pyOf (.tup [.str s.1, .str s.2.1, .int s.2.2]) = .tuple (pyOfL [.str s.1, .str s.2.1, .int s.2.2]) by rw [pyOf]]
  rw [pyOfL, pyOfL, pyOfL, pyOfL, PyData.canLay0, PyData.canLayAll0, PyData.canLayAll0, PyData.canLayAll0, PyData.canLayAll0, PyData.depth, PyData.depthAll, PyData.depthAll, PyData.depthAll, PyData.depthAll, h1, h2, h3, h4]
  simp only [pyOf, PyData.canLay0, PyData.depth]
  exact ⟨rfl, by omega⟩
theorem okD_tup {n : Nat} {xs : List D} (hl : xs.length ≤ 1000000) (h : ∀ x ∈ xs, okD n x) : okD (n + 1) (.tup xs) := .inr ⟨xs, .inr rfl, hl, h⟩
theorem okD_kind {k : Kd} (h : eqKd k) : okD 4 (kindT k) := by
  refine okD_tup (by show 3 ≤ _; omega) fun x hx => ?_
  simp only [List.mem_cons, List.not_mem_nil, or_false] at hx
  rcases hx with rfl | rfl | rfl
  · exact okD_atom (decide_eq_true (by have := h.1.1; omega))
  · exact okD_atom rfl
  · exact okD_rowsT h.2
theorem okD_seat {s : Se} (h : eqSe s) : okD 1 (seatT s) := by
  refine okD_tup (by show 3 ≤ _; omega) fun x hx => ?_
  simp only [List.mem_cons, List.not_mem_nil, or_false] at hx
  rcases hx with rfl | rfl | rfl
  · exact okD_atom (decide_eq_true (by have := h.1.1; omega))
  · exact okD_atom (decide_eq_true (by have := h.2.1; omega))
  · exact okD_atom rfl
theorem okD_kinds {ks : List Kd} (hl : ks.length ≤ 1000000) (h : ∀ k ∈ ks, eqKd k) : okD 5 (.tup (ks.map kindT)) := okD_tup (by rw [List.length_map]; exact hl) fun x hx => by
  obtain ⟨k, hk, rfl⟩ := List.mem_map.mp hx
  exact okD_kind (h k hk)
theorem okD_seats {ss : List Se} (hl : ss.length ≤ 1000000) (h : ∀ s ∈ ss, eqSe s) : okD 2 (.tup (ss.map seatT)) := okD_tup (by rw [List.length_map]; exact hl) fun x hx => by
  obtain ⟨k, hk, rfl⟩ := List.mem_map.mp hx
  exact okD_seat (h k hk)
theorem eqOk_kinds {ks : List Kd} (hl : ks.length ≤ 1000000) (h : ∀ k ∈ ks, eqKd k) : eqOk (.tup (ks.map kindT)) := by
  refine ⟨⟨5, okD_kinds hl h⟩, ?_⟩
  obtain ⟨h1, h2⟩ := lay_listG (p := eqKd) (fun _ => lay_kind) ks h
  show (PyData.canLay0 (pyOf (.tup _)) && decide (PyData.depth (pyOf (.tup _)) ≤ 64)) = true
  rw [pyOf, PyData.canLay0, PyData.depth, h1, decide_eq_true (by omega)]
  rfl
theorem eqOk_seats {ss : List Se} (hl : ss.length ≤ 1000000) (h : ∀ s ∈ ss, eqSe s) : eqOk (.tup (ss.map seatT)) := by
  refine ⟨⟨2, okD_seats hl h⟩, ?_⟩
  obtain ⟨h1, h2⟩ := lay_listG (p := eqSe) (fun _ => lay_seat) ss h
  show (PyData.canLay0 (pyOf (.tup _)) && decide (PyData.depth (pyOf (.tup _)) ≤ 64)) = true
  rw [pyOf, PyData.canLay0, PyData.depth, h1, decide_eq_true (by omega)]
  rfl
/-! ### what a make is known to be -/
structure goodM (z : Str) (ks : List Kd) (sp : Int) (ss : List Se) (nm : Str) : Prop where
  wd : wordsB (.str z) = true
  gk : okKs (z.length + 1) ks
  s0 : 0 ≤ sp
  s20 : sp ≤ 20
  gn : allN ks nm
  gs : okSs nm ss
  sl : ss.length ≤ 1000000
theorem caps_lim : ∀ n ∈ capitals, n < 0x110000 := by decide +kernel
theorem code_one {n : Nat} (h : n ∈ capitals) : codeOk (one n) := ⟨by show 1 ≤ _; omega, fun m hm => by
  have : m = n := by simpa [one] using hm
  rw [this]
  exact caps_lim n h⟩
theorem words_len {z : Str} (h : wordsB (.str z) = true) : z.length ≤ 4 := by
  obtain ⟨y, e, _, h4⟩ := words_str h
  cases e
  exact h4
theorem okRows_small {s : Nat} {rows : List Row} (hs : s ≤ 1000) (h : okRows s rows) : smallRows rows := ⟨by have := h.2.2.1; omega, fun r hr => by have := (h.2.2.2 r hr).2.2.1; omega⟩
theorem goodM.eqk {z ks sp ss nm} (g : goodM z ks sp ss nm) : ∀ k ∈ ks, eqKd k := fun k hk => by
  obtain ⟨⟨a, e, ha⟩, _, _, hr⟩ := g.gk.2 k hk
  have := words_len g.wd
  exact ⟨by rw [e]; exact code_one ha, okRows_small (by omega) hr⟩
theorem goodM.kl {z ks sp ss nm} (g : goodM z ks sp ss nm) : ks.length ≤ 4 := g.gk.1.2.1
theorem goodM.eqs {z ks sp ss nm} (g : goodM z ks sp ss nm) : ∀ s ∈ ss, eqSe s := fun s hs => by
  obtain ⟨a, b, e1, e2, ha, hb, _⟩ := g.gs.1 s hs
  exact ⟨by rw [e1]; exact code_one (g.gn.2.2.2 a ha), by rw [e2]; exact code_one (g.gn.2.2.2 b hb)⟩
theorem atK_kind {n : Str} : ∀ {ks : List Kd}, n ∈ ks.map (·.1) → atK (kindKeys ks) (ks.map kindT) (.inr n) = some (kindT (n, kindOf ks n)) ∧ (n, kindOf ks n) ∈ ks
  | [], h => by cases h
  | k :: ks, h => by
    by_cases e : k.1 = n
    · have : kindOf (k :: ks) n = k.2 := by unfold kindOf; rw [List.find?_cons_of_pos (by simp [e])]
      rw [this]
      subst e
      refine ⟨?_, List.mem_cons_self⟩
      show atK (.inr k.1 :: kindKeys ks) (kindT k :: ks.map kindT) (.inr k.1) = _
      rw [atK, if_pos rfl]
    · have : kindOf (k :: ks) n = kindOf ks n := by unfold kindOf; rw [List.find?_cons_of_neg (by simp [e])]
      rw [this]
      have h : n ∈ ks.map (·.1) := (List.mem_cons.mp h).resolve_left fun z => e z.symm
      obtain ⟨h1, h2⟩ := atK_kind h
      refine ⟨?_, List.mem_cons_of_mem _ h2⟩
      show atK (.inr k.1 :: kindKeys ks) (kindT k :: ks.map kindT) (.inr n) = _
      rw [atK, if_neg fun z => e (Sum.inr.inj z)]
      exact h1
theorem atK_seat {a b : Str} {sp : Int} : ∀ {ss : List Se}, (atK (ss.map seatKey) (ss.map fun s => .int s.2.2) [.inr a, .inr b]).getD (.int sp) = .int (seatOf ss sp a b)
  | [] => rfl
  | s :: ss => by
    by_cases e : s.1 = a ∧ s.2.1 = b
    · have : seatOf (s :: ss) sp a b = s.2.2 := by unfold seatOf; rw [List.find?_cons_of_pos (by simp [e])]
      rw [this, List.map_cons, List.map_cons, atK, if_pos (by unfold seatKey; rw [e.1, e.2])]
      rfl
    · have : seatOf (s :: ss) sp a b = seatOf ss sp a b := by unfold seatOf; rw [List.find?_cons_of_neg (by simpa using e)]
      rw [this, List.map_cons, List.map_cons, atK, if_neg fun z => e ?_]
      · exact atK_seat
      · unfold seatKey at z
        simp at z
        exact z
/-- a name of the make -/
theorem name_in {z ks sp ss nm} (g : goodM z ks sp ss nm) {d : D} (h : ltrB d nm = true) : ∃ n, d = .str (one n) ∧ n ∈ nm.cps.toList ∧ one n ∈ ks.map (·.1) := by
  obtain ⟨n, rfl, hn⟩ := ltr_one h
  exact ⟨n, rfl, hn, (g.gn.2.2.1 n).mp hn⟩
end
section
set_option maxHeartbeats 16000000
open PySem PySem.Spec PyProof.Rows L2 Vl
variable {cls : Nat → Addr} {P : Program} {w : World} {K : PySem.W.Frag} {mg : Str → Option Value} {base : Heap}
abbrev xUnk (d : D) : Xd := ⟨12, [("name", d)]⟩
/-! ### methods of Make -/
def fs_chk : FS := fun ds rt ex => ∃ z ks sp ss nm d, ds = [mak z ks sp ss nm, d] ∧ txtOk d ∧ (ltrB d nm = true → rt .non) ∧ (ltrB d nm = false → ex (xUnk d))
theorem ok_chk {f : Addr} {fd : FuncData} (T : MkC K (cls 26)) (d1 : Df P w K mg base cls "is_letter" 1 ["thing", "letters"] fs_is_letter) (x1 : Er P w K mg base cls "Unknown" 12 ["name"]) (F : Fun K "check_name" "Make.check_name" k_check f fd) : FnOk P w K mg base (L2N.CX P w) 3 f fd ["self", "name"] (spOf cls fs_chk) := by
  have hV := nv_sk_check
  refine def_ok F sk_check (fun ds rt ex h => ?_) (fun cdv A outer s H E W R ds rt ex hr h => ?_)
  · obtain ⟨_, _, _, _, _, _, rfl, _⟩ := h
    rfl
  · obtain ⟨z, ks, sp, ss, nm, d, rfl, hd, k1, k2⟩ := h
    refine wss_one (ws_if (wt_not (wt_val (we_call d1 (hr.mono (by decide)) ?_))))
    repeat walk_at "v"
    refine we_fld T.cl T.nN ?_
    repeat walk_at "v"
    refine ⟨_, _, rfl, rfl, d, nm, rfl, hd, _, rfl, fun e => ?_, fun e => wss_nil (k1 (by simpa using e))⟩
    refine wss_one (ws_raise (we_mkx x1 (hr.mono (by decide)) ?_))
    repeat walk_at "v"
    exact k2 (by simpa using e)
def fs_mnames : FS := fun ds rt _ => ∃ z ks sp ss nm, ds = [mak z ks sp ss nm] ∧ rt (.str nm)
theorem ok_mnames {f : Addr} {fd : FuncData} (T : MkC K (cls 26)) (F : Fun K "all_names" "Make.all_names" k_names f fd) : FnOk P w K mg base (L2N.CX P w) 1 f fd ["self"] (spOf cls fs_mnames) := by
  have hV := nv_sk_names
  refine def_ok F sk_names (fun ds rt ex h => ?_) (fun cdv A outer s H E W R ds rt ex hr h => ?_)
  · obtain ⟨_, _, _, _, _, rfl, _⟩ := h
    rfl
  · obtain ⟨z, ks, sp, ss, nm, rfl, k⟩ := h
    refine wss_one (ws_ret (we_fld T.cl T.nN ?_))
    repeat walk_at "v"
    exact ⟨_, _, rfl, rfl, k⟩
/-- what is asked by a name -/
def fsN (f : Str → List Kd → Int → List Se → Str → Str → D) : FS := fun ds rt ex => ∃ z ks sp ss nm d, ds = [mak z ks sp ss nm, d] ∧ goodM z ks sp ss nm ∧ txtOk d ∧ (ltrB d nm = false → ex (xUnk d)) ∧ (∀ n, d = .str n → ltrB d nm = true → rt (f z ks sp ss nm n))
theorem ok_lag {f : Addr} {fd : FuncData} (T : MkC K (cls 26)) (d1 : Dm P w K mg base cls 26 "check_name" 3 ["self", "name"] fs_chk) (F : Fun K "lag_of" "Make.lag_of" k_lag f fd) : FnOk P w K mg base (L2N.CX P w) 4 f fd ["self", "name"] (spOf cls (fsN fun _ ks _ _ _ n => .int (kindOf ks n).1)) := by
  have hV := nv_sk_lag
  refine def_ok F sk_lag (fun ds rt ex h => ?_) (fun cdv A outer s H E W R ds rt ex hr h => ?_)
  · obtain ⟨_, _, _, _, _, _, rfl, _⟩ := h
    rfl
  · obtain ⟨z, ks, sp, ss, nm, d, rfl, g, hd, k1, k2⟩ := h
    refine wss_cons (ws_expr (we_meth T.cl d1 hr ?_))
    repeat walk_at "v"
    refine ⟨_, rfl, rfl, ?_⟩
    repeat walk_at "v"
    refine ⟨z, ks, sp, ss, nm, d, rfl, hd, fun e => ?_, k1⟩
    obtain ⟨n, rfl, _, hn⟩ := name_in g e
    refine wss_one (ws_ret (we_ix (we_dget hr (we_fld T.cl T.nKo ?_))))
    repeat walk_at "v"
    refine ⟨_, _, rfl, rfl, ?_⟩
    repeat walk_at "v"
    refine ⟨_, _, .inr (one n), _, rfl, rfl, (atK_kind hn).1, ?_⟩
    repeat walk_at "v"
    exact ⟨_, _, rfl, item_tup (i := 1) rfl, k2 _ rfl e⟩
theorem tupled_rows (rows : List Row) : tupled (rowsT rows) = rowsT rows := by
  rw [tupled_tup, List.map_map]
  congr 1
  apply List.map_congr_left
  intro r _
  show tupled (rowT r) = rowT r
  unfold rowT
  rw [tupled_tup]
  congr 1
  simp only [List.map_cons, List.map_nil]
  rw [tupled_tup, List.map_map]
  rfl
theorem ok_mseat {f : Addr} {fd : FuncData} (T : MkC K (cls 26)) (d1 : Dm P w K mg base cls 26 "check_name" 3 ["self", "name"] fs_chk) (F : Fun K "seat_of" "Make.seat_of" k_seat f fd) : FnOk P w K mg base (L2N.CX P w) 4 f fd ["self", "ahead", "behind"] (spOf cls fun ds rt ex => ∃ z ks sp ss nm d e, ds = [mak z ks sp ss nm, d, e] ∧ goodM z ks sp ss nm ∧ txtOk d ∧ txtOk e ∧
    (ltrB d nm = false → ex (xUnk d)) ∧ (ltrB d nm = true → ltrB e nm = false → ex (xUnk e)) ∧ (∀ a b, d = .str a → e = .str b → ltrB d nm = true → ltrB e nm = true → rt (.int (seatOf ss sp a b)))) := by
  have hV := nv_sk_seat
  refine def_ok F sk_seat (fun ds rt ex h => ?_) (fun cdv A outer s H E W R ds rt ex hr h => ?_)
  · obtain ⟨_, _, _, _, _, _, _, rfl, _⟩ := h
    rfl
  · obtain ⟨z, ks, sp, ss, nm, d, e, rfl, g, hd, he, k1, k2, k3⟩ := h
    refine wss_cons (ws_expr (we_meth T.cl d1 hr ?_))
    repeat walk_at "v"
    refine ⟨_, rfl, rfl, ?_⟩
    repeat walk_at "v"
    refine ⟨z, ks, sp, ss, nm, d, rfl, hd, fun e1 => ?_, k1⟩
    obtain ⟨n, rfl, _, hn⟩ := name_in g e1
    refine wss_cons (ws_expr (we_meth T.cl d1 hr ?_))
    repeat walk_at "v"
    refine ⟨_, rfl, rfl, ?_⟩
    repeat walk_at "v"
    refine ⟨z, ks, sp, ss, nm, e, rfl, he, fun e2 => ?_, k2 e1⟩
    obtain ⟨m, rfl, _, hm⟩ := name_in g e2
    refine wss_one (ws_ret (we_dgetT hr (we_fld T.cl T.nP ?_)))
    repeat walk_at "v"
    refine ⟨_, _, rfl, rfl, _, _, rfl, we_tup ?_⟩
    repeat walk_at "v"
    refine ⟨[.inr (one n), .inr (one m)], rfl, we_fld T.cl T.nSp ?_⟩
    repeat walk_at "v"
    refine ⟨_, _, rfl, rfl, ?_⟩
    rw [atK_seat]
    exact k3 _ _ rfl rfl e1 e2
/-- how long the body of a kind is at rest -/
def bodyOf (ks : List Kd) (n : Str) : Int := (((kindOf ks n).2[0]?).map (·.2.1)).getD 0
theorem ok_mbody {f : Addr} {fd : FuncData} (T : MkC K (cls 26)) (TR : DrR K mg (cls 25)) (F : Fun K "body_of" "Make.body_of" k_body f fd) : FnOk P w K mg base (L2N.CX P w) 1 f fd ["self", "name"] (spOf cls fun ds rt _ => ∃ z ks sp ss nm n, ds = [mak z ks sp ss nm, .str n] ∧ goodM z ks sp ss nm ∧ n ∈ ks.map (·.1) ∧ rt (.int (bodyOf ks n))) := by
  have hV := nv_sk_body
  refine def_ok F sk_body (fun ds rt ex h => ?_) (fun cdv A outer s H E W R ds rt ex hr h => ?_)
  · obtain ⟨_, _, _, _, _, _, rfl, _⟩ := h
    rfl
  · obtain ⟨z, ks, sp, ss, nm, n, rfl, g, hn, k⟩ := h
    obtain ⟨h1, h2⟩ := atK_kind hn
    have okr := (g.gk.2 _ h2).2.2.2
    obtain ⟨u, cv⟩ := TR.cv
    have e0 := List.getElem?_eq_getElem (show 0 < (kindOf ks n).2.length from okr.2.1)
    refine wss_one (ws_ret (we_ix (we_ix (we_ix (we_dget hr (we_fld T.cl T.nKo ?_))))))
    repeat walk_at "v"
    refine ⟨_, _, rfl, rfl, ?_⟩
    repeat walk_at "v"
    refine ⟨_, _, .inr n, _, rfl, rfl, h1, ?_⟩
    repeat walk_at "v"
    refine ⟨_, _, rfl, item_tup (i := 2) rfl, ?_⟩
    refine we_cval TR.rd cv (fun _ _ => .int 0) (we_gcl TR.nm ⟨rfl, ?_⟩)
    refine ⟨_, _, rfl, item_tup (i := 0) (by rw [List.getElem?_map, e0]; rfl), ?_⟩
    repeat walk_at "v"
    refine ⟨_, _, rfl, item_tup (i := 1) rfl, ?_⟩
    unfold bodyOf at k
    rw [e0] at k
    exact k
/-- what isinstance(x, Make) must be told -/
structure MkI (K : PySem.W.Frag) (mg : Str → Option Value) (x : Str) (C : Addr) : Prop where
  nm : mg x = some (.ref C)
  ins : InsF K C
  yes : PySem.W.kitOne K (.ref C) (.ref C) = some true
  no : ∀ n ∈ ["NoneType", "bool", "int", "str", "list", "tuple"], PySem.W.kitOne K (.type n) (.ref C) = some false
@[irreducible] def fs_meq : FS := fun ds rt _ => ∃ z ks sp ss nm o, ds = [mak z ks sp ss nm, o] ∧ goodM z ks sp ss nm ∧
  ((∃ z' ks' sp' ss' nm', o = mak z' ks' sp' ss' nm' ∧ goodM z' ks' sp' ss' nm' ∧ rt (.bl (decide (z = z') && (decide (ks = ks') && (decide (sp = sp') && decide (ss = ss')))))) ∨ (dat o = true ∧ (∀ k gs, o ≠ .obj k gs) ∧ rt (.bl false)))
theorem ok_meq {f : Addr} {fd : FuncData} (nb : NB mg) (T : MkC K (cls 26)) (I : MkI K mg "Make" (cls 26)) (F : Fun K "__eq__" "Make.__eq__" k_eq f fd) : FnOk P w K mg base (L2N.CX P w) 1 f fd ["self", "other"] (spOf cls fs_meq) := by
  have hV := nv_sk_eq
  refine def_ok F sk_eq (fun ds rt ex h => ?_) (fun cdv A outer s H E W R ds rt ex hr h => ?_)
  · unfold fs_meq at h
    obtain ⟨_, _, _, _, _, _, rfl, _⟩ := h
    rfl
  · unfold fs_meq at h
    obtain ⟨z, ks, sp, ss, nm, o, rfl, g, h2⟩ := h
    refine wss_one (ws_ret (we_and (we_isi nb ?_)))
    repeat walk_at "v"
    refine we_gcl I.nm ?_
    rcases h2 with ⟨z', ks', sp', ss', nm', rfl, g', k⟩ | ⟨h3, h4, k⟩
    · refine ⟨_, _, true, rfl, rfl, fun k fs e => ?_, I.yes, _, rfl, fun _ => ?_, fun e => Bool.noConfusion e⟩
      · cases e
        exact I.ins
      refine we_and (we_eq (we_fld T.cl T.nW ?_))
      repeat walk_at "v"
      refine ⟨_, _, rfl, rfl, ?_⟩
      refine we_fld T.cl T.nW ?_
      repeat walk_at "v"
      refine ⟨_, _, rfl, rfl, ?_⟩
      refine eq_str ⟨_, rfl, fun e => ?_, fun e => ?_⟩
      · rw [e] at k
        refine we_and (we_eqD (hr.mono (by decide)) ?_)
        refine we_fld T.cl T.nK ?_
        repeat walk_at "v"
        refine ⟨_, _, rfl, rfl, ?_⟩
        refine we_fld T.cl T.nK ?_
        repeat walk_at "v"
        refine ⟨_, _, rfl, rfl, eqOk_kinds (by have := g.kl; omega) g.eqk, eqOk_kinds (by have := g'.kl; omega) g'.eqk, _, rfl, fun e => ?_, fun e => ?_⟩
        · rw [eqB_kinds] at e
          rw [e] at k
          refine we_and (we_eq (we_fld T.cl T.nSp ?_))
          repeat walk_at "v"
          refine ⟨_, _, rfl, rfl, ?_⟩
          refine we_fld T.cl T.nSp ?_
          repeat walk_at "v"
          refine ⟨_, _, rfl, rfl, ?_⟩
          refine eq_int ⟨_, rfl, fun e => ?_, fun e => ?_⟩
          · rw [e] at k
            refine we_one (we_eqD (hr.mono (by decide)) ?_)
            refine we_fld T.cl T.nSe ?_
            repeat walk_at "v"
            refine ⟨_, _, rfl, rfl, ?_⟩
            refine we_fld T.cl T.nSe ?_
            repeat walk_at "v"
            refine ⟨_, _, rfl, rfl, eqOk_seats g.sl g.eqs, eqOk_seats g'.sl g'.eqs, ?_⟩
            rw [eqB_seats]
            exact k
          · rw [e] at k
            exact k
        · rw [eqB_kinds] at e
          rw [e] at k
          exact k
      · rw [e] at k
        exact k
    · obtain ⟨n, hn, ht⟩ := tag_plain (cls := cls) h3 h4
      refine ⟨_, _, false, ht, rfl, fun k fs e => absurd e (h4 k fs), I.no n hn, _, rfl, fun e => Bool.noConfusion e, fun _ => k⟩
end
section
set_option maxHeartbeats 16000000
open PySem PySem.Spec PyProof.Rows L2 Vl
variable {cls : Nat → Addr} {P : Program} {w : World} {K : PySem.W.Frag} {mg : Str → Option Value} {base : Heap}
theorem tupled_kindT (k : Kd) : tupled (kindT k) = kindT k := by
  unfold kindT
  rw [tupled_tup]
  show D.tup [_, _, tupled (rowsT k.2.2)] = _
  rw [tupled_rows]
  try rfl
theorem tupled_seatT (s : Se) : tupled (seatT s) = seatT s := by
  unfold seatT
  rw [tupled_tup]
  try rfl
theorem tupled_kinds (ks : List Kd) : tupled (.tup (ks.map kindT)) = .tup (ks.map kindT) := by
  rw [tupled_tup, List.map_map, show ks.map (tupled ∘ kindT) = ks.map kindT from List.map_congr_left fun k _ => tupled_kindT k]
theorem tupled_seats (ss : List Se) : tupled (.tup (ss.map seatT)) = .tup (ss.map seatT) := by
  rw [tupled_tup, List.map_map, show ss.map (tupled ∘ seatT) = ss.map seatT from List.map_congr_left fun k _ => tupled_seatT k]
theorem kindT_inj {k q : Kd} (h : kindT k = kindT q) : k = q := by
  have := eqv_kind k q
  rw [h, eqv_kind q q] at this
  simpa using this.symm
theorem seatT_inj {k q : Se} (h : seatT k = seatT q) : k = q := by
  have := eqv_seat k q
  rw [h, eqv_seat q q] at this
  simpa using this.symm
theorem kinds_inj {a b : List Kd} (h : D.tup (a.map kindT) = D.tup (b.map kindT)) : a = b := (List.map_inj_right fun x y => kindT_inj).mp (D.tup.inj h)
theorem seats_inj {a b : List Se} (h : D.tup (a.map seatT) = D.tup (b.map seatT)) : a = b := (List.map_inj_right fun x y => seatT_inj).mp (D.tup.inj h)
theorem ltrB_one {n : Nat} {L : Str} (h : n ∈ L.cps.toList) : ltrB (.str (one n)) L = true := decide_eq_true h
theorem kind_ok {s : Nat} {k : Kd} (h : okKd s k) : isKindB s (kindT k) = true := by
  obtain ⟨⟨a, e, ha⟩, l1, l3, hr⟩ := h
  show ((ltrB (.str k.1) CAPS && inB (.int k.2.1) 1 3) && isNon (wrongD s (rowsT k.2.2))) = true
  rw [e, ltrB_one ha, hr.1, show inB (.int k.2.1) 1 3 = (decide (1 ≤ k.2.1) && decide (k.2.1 ≤ 3)) from rfl, decide_eq_true l1, decide_eq_true l3]
  rfl
theorem kinds_ok {s : Nat} {ks : List Kd} (h : okKs s ks) : tupB (.tup (ks.map kindT)) 1 4 = true ∧ (∀ x ∈ ks.map kindT, isKindB s x = true) ∧ ((ks.map kindT).map nameS).Nodup := by
  obtain ⟨⟨l1, l4, l, nd, _, el⟩, hk⟩ := h
  refine ⟨?_, fun x hx => ?_, ?_⟩
  · show (decide ((1 : Int) ≤ ((ks.map kindT).length : Int)) && decide (((ks.map kindT).length : Int) ≤ 4)) = true
    rw [List.length_map, decide_eq_true (by omega), decide_eq_true (by omega)]
    rfl
  · obtain ⟨k, hk2, rfl⟩ := List.mem_map.mp hx
    exact kind_ok (hk k hk2)
  · rw [List.map_map, show (nameS ∘ kindT) = fun k : Kd => k.1 from rfl, el]
    exact List.pairwise_map.mpr (nd.imp fun h z => h (one_inj z))
theorem no_bad {p : D → Bool} {xs : List D} (h : ∀ x ∈ xs, p x = true) {i : Nat} (b : firstBad p xs i) : False := by
  obtain ⟨x, h1, h2⟩ := b.2
  rw [h x (List.mem_of_getElem? h1)] at h2
  cases h2
theorem no_twice {l : List Str} (nd : l.Nodup) {i : Nat} {n : Str} (t : firstTwice l i n) : False := nodup_take nd t.1 t.2.1
/-- what is due of seats -/
def dueSeats (nm : Str) (d : D) (rt : List Se → Prop) (ex : Xd → Prop) : Prop :=
  (isA "tuple" (tupled d) = false → ex (xSeat (-1))) ∧ (∀ xs, tupled d = .tup xs → ∀ i : Nat, firstBS nm xs i → ex (xSeat i)) ∧ ∀ ss, tupled d = .tup (ss.map seatT) → okSs nm ss → rt ss
/-- words, kinds, space are well -/
theorem due_ok {dk dse : D} {z : Str} {ks : List Kd} {sp : Int} {nm : Str} {rt : Str → List Kd → Int → List Se → Str → Prop} {ex : Xd → Prop} (hw : wordsB (.str z) = true) (ek : tupled dk = .tup (ks.map kindT)) (hk : okKs (z.length + 1) ks) (s0 : 0 ≤ sp) (s20 : sp ≤ 20) (hn : allN ks nm)
    (h : dueSeats nm dse (fun ss => rt z ks sp ss nm) ex) : dueMake (.str z) dk (.int sp) dse rt ex := by
  obtain ⟨t1, t2, t3⟩ := kinds_ok hk
  refine ⟨fun e => (by rw [hw] at e; cases e), fun y e _ => ?_⟩
  cases e
  refine ⟨fun e => (by rw [ek, t1] at e; cases e), fun xs e _ => ?_, fun ks' e hk' => ⟨fun e => ?_, fun sp' nm' e1 _ _ hn' => ?_⟩⟩
  · rw [ek] at e
    cases e
    exact ⟨fun i b => (no_bad t2 b).elim, fun _ i n t => (no_twice t3 t).elim⟩
  · have : inB (.int sp) 0 20 = (decide (0 ≤ sp) && decide (sp ≤ 20)) := rfl
    rw [this, decide_eq_true s0, decide_eq_true s20] at e
    cases e
  · rw [ek] at e
    have := kinds_inj e
    subst this
    cases e1
    have := allN_uniq hn hn'
    subst this
    exact h
theorem seat_ok {L : Str} {s : Se} (h : okSe L s) : isSeatB L (seatT s) = true := by
  obtain ⟨a, b, e1, e2, ha, hb, c0, c4⟩ := h
  show ((ltrB (.str s.1) L && ltrB (.str s.2.1) L) && inB (.int s.2.2) 0 40) = true
  rw [e1, e2, ltrB_one ha, ltrB_one hb, show inB (.int s.2.2) 0 40 = (decide (0 ≤ s.2.2) && decide (s.2.2 ≤ 40)) from rfl, decide_eq_true c0, decide_eq_true c4]
  rfl
theorem no_badS {L : Str} {ss : List Se} (h : okSs L ss) {i : Nat} (b : firstBS L (ss.map seatT) i) : False := by
  obtain ⟨x, h1, h2⟩ := b.2
  rw [List.getElem?_map] at h1
  cases e : ss[i]? with
  | none => rw [e] at h1; cases h1
  | some s =>
    rw [e] at h1
    cases h1
    unfold badSeat at h2
    rw [seat_ok (h.1 s (List.mem_of_getElem? e)), Bool.not_true, Bool.false_or, ← List.map_take, List.map_map] at h2
    obtain ⟨k, hk, e2⟩ := List.any_eq_true.mp h2
    have e2 : k = keyOf (seatT s) := of_decide_eq_true e2
    obtain ⟨q, hq, rfl⟩ := List.mem_map.mp hk
    have nd := nodup_take (i := i) h.2 (a := seatKey s) (by rw [List.getElem?_map, e]; rfl)
    refine nd ?_
    rw [← List.map_take]
    exact List.mem_map.mpr ⟨q, hq, e2⟩
/-- the seats are well, too -/
theorem dueS_ok {nm : Str} {d : D} {ss : List Se} {rt : List Se → Prop} {ex : Xd → Prop} (e : tupled d = .tup (ss.map seatT)) (h : okSs nm ss) (k : rt ss) : dueSeats nm d rt ex := by
  refine ⟨fun z => (by rw [e] at z; cases z), fun xs z i b => ?_, fun ss' z _ => ?_⟩
  · rw [e] at z
    cases z
    exact (no_badS h b).elim
  · rw [e] at z
    have := seats_inj z
    subst this
    exact k
/-! ### reseated -/
end
section
set_option maxHeartbeats 16000000
open PySem PySem.Spec PyProof.Rows L2 Vl
variable {cls : Nat → Addr} {P : Program} {w : World} {K : PySem.W.Frag} {mg : Str → Option Value} {base : Heap}
/-! ### Column -/
abbrev c_init : Stmt := inClass (top 33) 0
abbrev c_eq : Stmt := inClass (top 33) 4
abbrev c_delay : Stmt := inClass (top 33) 6
abbrev c_front : Stmt := inClass (top 33) 7
abbrev c_pairs : Stmt := inClass (top 33) 9
theorem sl_init : FnScope ["self", "make", "groups", "wrong"] ["self", "make", "groups"] (defScope c_init) := ⟨rfl, rfl, rfl, by decide +kernel, rfl, by decide +kernel, by decide +kernel⟩
theorem nv_sl_init : NmOk ["self", "make", "groups", "wrong"] (defScope c_init) 4 := ⟨by decide +kernel⟩
theorem sl_eq : FnScope ["self", "other"] ["self", "other"] (defScope c_eq) := ⟨rfl, rfl, rfl, by decide +kernel, rfl, by decide +kernel, by decide +kernel⟩
theorem nv_sl_eq : NmOk ["self", "other"] (defScope c_eq) 2 := ⟨by decide +kernel⟩
theorem sl_delay : FnScope ["self", "delays", "name"] ["self"] (defScope c_delay) := ⟨rfl, rfl, rfl, by decide +kernel, rfl, by decide +kernel, by decide +kernel⟩
theorem nv_sl_delay : NmOk ["self", "delays", "name"] (defScope c_delay) 3 := ⟨by decide +kernel⟩
theorem sl_front : FnScope ["self", "fronts", "ahead", "behind"] ["self"] (defScope c_front) := ⟨rfl, rfl, rfl, by decide +kernel, rfl, by decide +kernel, by decide +kernel⟩
theorem nv_sl_front : NmOk ["self", "fronts", "ahead", "behind"] (defScope c_front) 4 := ⟨by decide +kernel⟩
theorem sl_pairs : FnScope ["self", "at"] ["self"] (defScope c_pairs) := ⟨rfl, rfl, rfl, by decide +kernel, rfl, by decide +kernel, by decide +kernel⟩
theorem nv_sl_pairs : NmOk ["self", "at"] (defScope c_pairs) 1 := ⟨by decide +kernel⟩
structure ClC (K : PySem.W.Frag) (C : Addr) : Prop where
  cl : Cls K C
  nM : NoAttr K C "make"
  nG : NoAttr K C "groups"
/-- a column -/
def col (m : D) (g : Str) : D := .obj 27 [("make", m), ("groups", .str g)]
/-- groups of a make -/
structure goodG (nm g : Str) : Prop where
  l1 : 1 ≤ g.length
  l60 : g.length ≤ 60
  mem : ∀ n ∈ g.cps.toList, n ∈ nm.cps.toList
abbrev xCol (d : D) : Xd := ⟨9, [("number", d)]⟩
theorem misp_good {nm g : Str} (h : mispD (.str g) nm 1 60 = .non) : goodG nm g := by
  rw [mispD_str] at h
  split at h
  · rename_i hl
    split at h
    · cases h
    · rename_i hn
      refine ⟨by omega, by omega, fun n hn' => ?_⟩
      have := List.findIdx?_eq_none_iff.mp hn n hn'
      simpa using this
  · cases h
theorem good_misp {nm g : Str} (h : goodG nm g) : mispD (.str g) nm 1 60 = .non := by
  rw [mispD_str, if_pos ⟨by have := h.l1; omega, by have := h.l60; omega⟩]
  have : offAt g nm = none := List.findIdx?_eq_none_iff.mpr fun n hn => by simp [h.mem n hn]
  rw [this]
@[irreducible] def fi_col : FI := fun ds rt ex => ∃ z ks sp ss nm d, ds = [mak z ks sp ss nm, d] ∧ txtOk d ∧ (∀ y, mispD d nm 1 60 = y → isNon y = false → ex (xCol y)) ∧ (∀ g, d = .str g → goodG nm g → rt [("make", mak z ks sp ss nm), ("groups", .str g)])
theorem ok_col {f : Addr} {fd : FuncData} {t : Tok} (hS : mg "MOST_GROUPS" = some (.int 60 t)) (T : MkC K (cls 26)) (C : ClC K (cls 27)) (d1 : Df P w K mg base cls "misplaced" 1 ["text", "letters", "least", "most"] fs_misplaced) (d2 : Dp P w K mg base cls 26 "all_names" 1 fs_mnames) (x1 : Er P w K mg base cls "BadColumn" 9 ["number"])
    (F : Fun K "__init__" "Column.__init__" c_init f fd) : FnOk P w K mg base (L2N.CX P w) 3 f fd ["self", "make", "groups"] (spInit cls 27 fi_col) := by
  have hV := nv_sl_init
  refine init_ok F sl_init (fun ds rt ex h => ?_) (fun cdv A outer s H E W R Hb a ds rt ex hr h => ?_)
  · unfold fi_col at h
    obtain ⟨_, _, _, _, _, _, rfl, _⟩ := h
    rfl
  · unfold fi_col at h
    obtain ⟨z, ks, sp, ss, nm, d, rfl, hd, k1, k2⟩ := h
    have hN := sl_init.nd
    refine wss_cons (ws_set 3 hN rfl (we_call d1 (hr.mono (by decide)) ?_))
    repeat walk_at "v"
    refine we_prop T.cl d2 hr ?_
    repeat walk_at "v"
    refine ⟨_, rfl, z, ks, sp, ss, nm, rfl, ?_⟩
    repeat walk_at "v"
    refine we_gint hS ?_
    refine ⟨d, nm, 1, 60, rfl, hd, ?_⟩
    refine wss_cons (ws_if (wt_notN ?_))
    repeat walk_at "v"
    refine ⟨rfl, _, rfl, fun e1 => ?_, fun e1 => ?_⟩
    · refine wss_one (ws_raise (we_mkx x1 hr ?_))
      repeat walk_at "v"
      exact k1 _ rfl (by simpa using e1)
    · have e2 : mispD d nm 1 60 = .non := by
        cases em : mispD d nm 1 60 <;> first | rfl | (rw [em] at e1; exact Bool.noConfusion e1)
      obtain ⟨g, rfl⟩ : ∃ g, d = .str g := by
        cases d <;> first | exact ⟨_, rfl⟩ | cases e2
      have k2 := k2 g rfl (misp_good e2)
      refine wss_nil (wss_cons (ws_fld 0 C.cl C.nM rfl rfl ?_))
      repeat walk_at "v"
      refine wss_one (ws_fld 0 C.cl C.nG rfl rfl (hl := (by decide : 1 < 1000)) ?_)
      repeat walk_at "v"
      exact ⟨_, rfl, k2⟩
/-! ### its methods -/
abbrev xNum (d : D) : Xd := ⟨10, [("number", d)]⟩
@[irreducible] def fs_ceq : FS := fun ds rt _ => ∃ z ks sp ss nm g o, ds = [col (mak z ks sp ss nm) g, o] ∧ goodM z ks sp ss nm ∧
  ((∃ z' ks' sp' ss' nm' g', o = col (mak z' ks' sp' ss' nm') g' ∧ goodM z' ks' sp' ss' nm' ∧ rt (.bl ((decide (z = z') && (decide (ks = ks') && (decide (sp = sp') && decide (ss = ss')))) && decide (g = g')))) ∨ (dat o = true ∧ (∀ k gs, o ≠ .obj k gs) ∧ rt (.bl false)))
theorem ok_ceq {f : Addr} {fd : FuncData} (nb : NB mg) (C : ClC K (cls 27)) (I : MkI K mg "Column" (cls 27)) (IM : InsF K (cls 26)) (nf : PySem.W.notFirst K (cls 26) (.ref (cls 26)) = true) (dm : Dm P w K mg base cls 26 "__eq__" 1 ["self", "other"] fs_meq) (F : Fun K "__eq__" "Column.__eq__" c_eq f fd) : FnOk P w K mg base (L2N.CX P w) 2 f fd ["self", "other"] (spOf cls fs_ceq) := by
  have hV := nv_sl_eq
  refine def_ok F sl_eq (fun ds rt ex h => ?_) (fun cdv A outer s H E W R ds rt ex hr h => ?_)
  · unfold fs_ceq at h
    obtain ⟨_, _, _, _, _, _, _, rfl, _⟩ := h
    rfl
  · unfold fs_ceq at h
    obtain ⟨z, ks, sp, ss, nm, g, o, rfl, gm, h2⟩ := h
    refine wss_one (ws_ret (we_and (we_isi nb ?_)))
    repeat walk_at "v"
    refine we_gcl I.nm ?_
    rcases h2 with ⟨z', ks', sp', ss', nm', g', rfl, gm', k⟩ | ⟨h3, h4, k⟩
    · refine ⟨_, _, true, rfl, rfl, fun k fs e => ?_, I.yes, _, rfl, fun _ => ?_, fun e => Bool.noConfusion e⟩
      · cases e
        exact I.ins
      refine we_and (we_eqO (Dm.obm dm) hr (we_fld C.cl C.nM ?_))
      repeat walk_at "v"
      refine ⟨_, _, rfl, rfl, ?_⟩
      refine we_fld C.cl C.nM ?_
      repeat walk_at "v"
      refine ⟨_, _, rfl, rfl, _, _, rfl, rfl, fun kk fs e => by cases e; exact IM, nf, ?_⟩
      unfold fs_meq
      refine ⟨z, ks, sp, ss, nm, _, rfl, gm, .inl ⟨z', ks', sp', ss', nm', rfl, gm', _, rfl, _, rfl, fun e => ?_, fun e => ?_⟩⟩
      · rw [e] at k
        refine we_one (we_eq (we_fld C.cl C.nG ?_))
        repeat walk_at "v"
        refine ⟨_, _, rfl, rfl, ?_⟩
        refine we_fld C.cl C.nG ?_
        repeat walk_at "v"
        exact ⟨_, _, rfl, rfl, eq_str k⟩
      · rw [e] at k
        exact k
    · obtain ⟨n, hn, ht⟩ := tag_plain (cls := cls) h3 h4
      refine ⟨_, _, false, ht, rfl, fun k fs e => absurd e (h4 k fs), I.no n hn, _, rfl, fun e => Bool.noConfusion e, fun _ => k⟩
end
section
set_option maxHeartbeats 16000000
open PySem PySem.Spec PyProof.Rows L2 Vl
variable {cls : Nat → Addr} {P : Program} {w : World} {K : PySem.W.Frag} {mg : Str → Option Value} {base : Heap}
/-! ### running sums -/
/-- the sums of the first 0, 1, .. steps, i of them -/
def sumsL (s : List Int) (i : Nat) : List Int := (List.range (i + 1)).map fun j => (s.take j).sum
theorem sums_snoc (s : List Int) {i : Nat} {a : Int} (h : s[i]? = some a) : sumsL s i ++ [(s.take i).sum + a] = sumsL s (i + 1) := by
  unfold sumsL
  rw [List.range_succ (n := i + 1), List.map_append, List.map_cons, List.map_nil, take_get h, List.sum_append]
  simp
theorem atI_last {α : Type} {l : List α} {a : α} (h : l.getLast? = some a) : L2.atI l (-1) = some a := by
  have hl : 1 ≤ l.length := by cases l with | nil => cases h | cons _ _ => simp
  unfold L2.atI L2.ixN
  rw [if_neg (by decide), if_pos (by omega)]
  rw [List.getLast?_eq_getElem?] at h
  show l[(-1 + (l.length : Int)).toNat]? = some a
  rw [show (-1 + (l.length : Int)).toNat = l.length - 1 by omega]
  exact h
theorem sums_last (s : List Int) (i : Nat) : L2.atI ((sumsL s i).map D.int) (-1) = some (.int ((s.take i).sum)) := by
  have e : sumsL s i = ((List.range i).map fun j => (s.take j).sum) ++ [(s.take i).sum] := by
    unfold sumsL
    rw [List.range_succ, List.map_append]
    rfl
  rw [e, List.map_append]
  exact atI_last (by simp)
theorem sums_len (s : List Int) (i : Nat) : (sumsL s i).length = i + 1 := by unfold sumsL; rw [List.length_map, List.length_range]
/-- what a group adds to the delay; to the front of the next -/
def lagsL (ks : List Kd) (l : List Nat) : List Int := l.dropLast.map fun n => (kindOf ks (one n)).1
def stepL (ks : List Kd) (ss : List Se) (sp : Int) (l : List Nat) : List Int := (l.zip l.tail).map fun p => 0 - bodyOf ks (one p.1) - seatOf ss sp (one p.1) (one p.2)
def delayL (ks : List Kd) (l : List Nat) : List Int := sumsL (lagsL ks l) (l.length - 1)
def frontL (ks : List Kd) (ss : List Se) (sp : Int) (l : List Nat) : List Int := sumsL (stepL ks ss sp l) (l.length - 1)
def pairsD (l : List Nat) : List D := (l.zip l.tail).map fun p => .tup [.str (one p.1), .str (one p.2)]
abbrev intsT (l : List Int) : D := .tup (l.map D.int)
theorem name_of {z ks sp ss nm} (g : goodM z ks sp ss nm) {n : Nat} (h : n ∈ nm.cps.toList) : ltrB (.str (one n)) nm = true ∧ one n ∈ ks.map (·.1) := ⟨ltrB_one h, (g.gn.2.2.1 n).mp h⟩
theorem txt_one (n : Nat) : txtOk (.str (one n)) := ⟨rfl, fun y e => by cases e; show 1 ≤ _; omega⟩
theorem dropLast_take {α : Type} (l : List α) : l.dropLast = l.take (l.length - 1) := List.dropLast_eq_take
theorem cut_dropLast {z : Str} (h : 1 ≤ z.length) : (cutS z none (some (-1))).cps.toList = z.cps.toList.dropLast := by
  rw [cut_list, dropLast_take, ← Vl.len_list]
  unfold HT.sIx
  simp
  congr 1
  omega
/-! ### delay_row -/
def fs_crow (f : List Kd → List Se → Int → List Nat → D) : FS := fun ds rt _ => ∃ z ks sp ss nm g, ds = [col (mak z ks sp ss nm) g] ∧ goodM z ks sp ss nm ∧ goodG nm g ∧ rt (f ks ss sp g.cps.toList)
theorem ok_delay {f : Addr} {fd : FuncData} (nb : NB mg) (T : MkC K (cls 26)) (C : ClC K (cls 27)) (dl : Dm P w K mg base cls 26 "lag_of" 4 ["self", "name"] (fsN fun _ ks _ _ _ n => .int (kindOf ks n).1)) (F : Fun K "delay_row" "Column.delay_row" c_delay f fd) :
    FnOk P w K mg base (L2N.CX P w) 5 f fd ["self"] (spOf cls (fs_crow fun ks _ _ l => intsT (delayL ks l))) := by
  have hV := nv_sl_delay
  refine def_ok F sl_delay (fun ds rt ex h => ?_) (fun cdv A outer s H E W R ds rt ex hr h => ?_)
  · obtain ⟨_, _, _, _, _, _, rfl, _⟩ := h
    rfl
  · obtain ⟨z, ks, sp, ss, nm, g, rfl, gm, gg, k⟩ := h
    have hN := sl_delay.nd
    have l1 := gg.l1
    have l60 := gg.l60
    refine wss_cons (ws_own 1 hN rfl ?_)
    repeat walk_at "v"
    refine wss_cons (ws_for rfl (wi_str (we_sliceS (we_fld C.cl C.nG ?_))))
    repeat walk_at "v"
    refine ⟨_, _, rfl, rfl, g, rfl, by rw [sizeLine_eq]; omega, ?_⟩
    refine we_neg ?_
    repeat walk_at "v"
    refine ⟨1, rfl, -1, rfl, _, rfl, fun i ρ' => ∃ o, ρ' = [some (.val (col (mak z ks sp ss nm) g)), some (.lst ((sumsL (lagsL ks g.cps.toList) i).map D.int)), o], ⟨_, rfl⟩, fun i d ρ' hi hI => ?_, fun ρ' hI => ?_⟩
    · obtain ⟨n, hn, rfl⟩ := signs_get hi
      obtain ⟨o, rfl⟩ := hI
      rw [cut_dropLast l1] at hn
      have lt : i < g.cps.toList.dropLast.length := (List.getElem?_eq_some_iff.mp hn).1
      rw [List.length_dropLast, ← Vl.len_list] at lt
      have mem : n ∈ nm.cps.toList := gg.mem n (List.dropLast_subset _ (List.mem_of_getElem? hn))
      obtain ⟨h1, h2⟩ := name_of gm mem
      refine wg_name 2 hN rfl ?_
      refine wss_one (ws_app 1 rfl rfl (by rw [List.length_map, sums_len, sizeLine_eq]; omega) (we_add (we_oix (i := 1) rfl rfl ?_)))
      refine we_neg ?_
      repeat walk_at "v"
      refine ⟨1, rfl, -1, _, rfl, sums_last _ _, ?_⟩
      refine we_meth T.cl dl hr (we_fld C.cl C.nM ?_)
      repeat walk_at "v"
      refine ⟨_, _, rfl, rfl, _, rfl, rfl, ?_⟩
      repeat walk_at "v"
      refine ⟨z, ks, sp, ss, nm, _, rfl, gm, txt_one n, fun e => (by rw [h1] at e; cases e), fun m em _ => ?_⟩
      cases em
      refine ⟨_, _, rfl, rfl, some (.val (.str (one n))), ?_⟩
      have st : (lagsL ks g.cps.toList)[i]? = some (kindOf ks (one n)).1 := by unfold lagsL; rw [List.getElem?_map, hn]; rfl
      rw [← sums_snoc _ st, List.map_append]
      rfl
    · obtain ⟨o, rfl⟩ := hI
      refine wss_pub 1 rfl (wss_one (ws_ret ?_))
      repeat walk_at "v"
      refine ⟨_, .inl rfl, ?_⟩
      have e : (Vl.signs (cutS g none (some (-1)))).length = g.cps.toList.length - 1 := by
        unfold Vl.signs
        rw [List.length_map, cut_dropLast l1, List.length_dropLast]
      rw [e]
      exact k
/-! ### pairs -/
theorem zip_tail_get {l : List Nat} {i a b : Nat} (h1 : l[i]? = some a) (h2 : l[i + 1]? = some b) : (l.zip l.tail)[i]? = some (a, b) := by
  rw [List.getElem?_zip_eq_some]
  exact ⟨h1, by rw [List.getElem?_tail]; exact h2⟩
theorem zip_tail_len (l : List Nat) : (l.zip l.tail).length = l.length - 1 := by
  rw [List.length_zip, List.length_tail]
  omega
theorem ok_pairs {f : Addr} {fd : FuncData} (nb : NB mg) (C : ClC K (cls 27)) (F : Fun K "pairs" "Column.pairs" c_pairs f fd) : FnOk P w K mg base (L2N.CX P w) 1 f fd ["self"] (spOf cls (fs_crow fun _ _ _ l => .tup (pairsD l))) := by
  have hV := nv_sl_pairs
  refine def_ok F sl_pairs (fun ds rt ex h => ?_) (fun cdv A outer s H E W R ds rt ex hr h => ?_)
  · obtain ⟨_, _, _, _, _, _, rfl, _⟩ := h
    rfl
  · obtain ⟨z, ks, sp, ss, nm, g, rfl, gm, gg, k⟩ := h
    have hN := sl_pairs.nd
    have l1 := gg.l1
    have l60 := gg.l60
    refine wss_one (ws_ret ?_)
    walk_at "v"
    refine we_lc 1 hN (LC.map (wi_range1 (nb _ (by decide)) ?_))
    repeat walk_at "v"
    refine we_fld C.cl C.nG ?_
    repeat walk_at "v"
    refine ⟨_, _, rfl, rfl, _, len_str (by omega), ?_⟩
    repeat walk_at "v"
    refine ⟨_, _, rfl, rfl, _, rfl, by omega, by omega, by rw [rangeD_length]; omega, fun i x y => ∃ a b, g.cps.toList[i]? = some a ∧ g.cps.toList[i + 1]? = some b ∧ y = .tup [.str (one a), .str (one b)], fun i x hi => ⟨_, rfl, fun s0 H0 C0 cl fp => ?_⟩, fun acc a1 a2 => ?_⟩
    · obtain ⟨hlt, rfl⟩ := rangeD_get hi
      have hlt : i + 1 < g.length := by omega
      have ea := List.getElem?_eq_getElem (show i < g.cps.toList.length by rw [← Vl.len_list]; omega)
      have eb := List.getElem?_eq_getElem (show i + 1 < g.cps.toList.length by rw [← Vl.len_list]; omega)
      refine we_tup (we_ix (we_fld C.cl C.nG ?_))
      repeat walk_at "v"
      refine ⟨_, _, rfl, rfl, ?_⟩
      repeat walk_at "v"
      refine ⟨_, _, rfl, (show itemD (.str g) (0 + (i : Int)) = _ from by rw [Int.zero_add]; exact item_str (by omega) ea), ?_⟩
      refine we_ix (we_fld C.cl C.nG ?_)
      repeat walk_at "v"
      refine ⟨_, _, rfl, rfl, ?_⟩
      refine we_add ?_
      repeat walk_at "v"
      refine ⟨_, _, rfl, rfl, _, _, rfl, (show itemD (.str g) (0 + (i : Int) + 1) = _ from by rw [Int.zero_add]; exact item_str (i := i + 1) (by omega) eb), _, _, ea, eb, rfl⟩
    · refine ⟨_, .inl rfl, ?_⟩
      have e : acc = pairsD g.cps.toList := by
        rw [rangeD_length] at a1
        apply List.ext_getElem?
        intro j
        unfold pairsD
        rw [List.getElem?_map]
        by_cases hj : j < acc.length
        · obtain ⟨a, b, e1, e2, e3⟩ := a2 j (.int (0 + (j : Nat))) _ (by unfold rangeD; rw [List.getElem?_map, List.getElem?_range (by omega)]; rfl) (List.getElem?_eq_getElem hj)
          rw [List.getElem?_eq_getElem hj, e3, zip_tail_get e1 e2]
          rfl
        · rw [List.getElem?_eq_none (by omega), List.getElem?_eq_none (by rw [zip_tail_len, ← Vl.len_list]; omega)]
          rfl
      rw [e]
      exact k
/-! ### front_row -/
theorem ok_front {f : Addr} {fd : FuncData} (nb : NB mg) (T : MkC K (cls 26)) (C : ClC K (cls 27)) (db : Dm P w K mg base cls 26 "body_of" 1 ["self", "name"] fun ds rt _ => ∃ z ks sp ss nm n, ds = [mak z ks sp ss nm, .str n] ∧ goodM z ks sp ss nm ∧ n ∈ ks.map (·.1) ∧ rt (.int (bodyOf ks n)))
    (dS : Dm P w K mg base cls 26 "seat_of" 4 ["self", "ahead", "behind"] fun ds rt ex => ∃ z ks sp ss nm d e, ds = [mak z ks sp ss nm, d, e] ∧ goodM z ks sp ss nm ∧ txtOk d ∧ txtOk e ∧ (ltrB d nm = false → ex (xUnk d)) ∧ (ltrB d nm = true → ltrB e nm = false → ex (xUnk e)) ∧ (∀ a b, d = .str a → e = .str b → ltrB d nm = true → ltrB e nm = true → rt (.int (seatOf ss sp a b))))
    (dp : Dp P w K mg base cls 27 "pairs" 1 (fs_crow fun _ _ _ l => .tup (pairsD l))) (F : Fun K "front_row" "Column.front_row" c_front f fd) :
    FnOk P w K mg base (L2N.CX P w) 5 f fd ["self"] (spOf cls (fs_crow fun ks ss sp l => intsT (frontL ks ss sp l))) := by
  have hV := nv_sl_front
  refine def_ok F sl_front (fun ds rt ex h => ?_) (fun cdv A outer s H E W R ds rt ex hr h => ?_)
  · obtain ⟨_, _, _, _, _, _, rfl, _⟩ := h
    rfl
  · obtain ⟨z, ks, sp, ss, nm, g, rfl, gm, gg, k⟩ := h
    have hN := sl_front.nd
    have l1 := gg.l1
    have l60 := gg.l60
    refine wss_cons (ws_own 1 hN rfl ?_)
    repeat walk_at "v"
    refine wss_cons (ws_for rfl (wi_tup (we_prop C.cl dp (hr.mono (by decide)) ?_)))
    repeat walk_at "v"
    refine ⟨_, rfl, z, ks, sp, ss, nm, g, rfl, gm, gg, _, rfl, fun i ρ' => ∃ o1 o2, ρ' = [some (.val (col (mak z ks sp ss nm) g)), some (.lst ((sumsL (stepL ks ss sp g.cps.toList) i).map D.int)), o1, o2], ⟨_, _, rfl⟩, fun i d ρ' hi hI => ?_, fun ρ' hI => ?_⟩
    · obtain ⟨o1, o2, rfl⟩ := hI
      unfold pairsD at hi
      rw [List.getElem?_map] at hi
      cases ep : (g.cps.toList.zip g.cps.toList.tail)[i]? with
      | none => rw [ep] at hi; cases hi
      | some p =>
        obtain ⟨a, b⟩ := p
        rw [ep] at hi
        cases hi
        have lt : i < g.length - 1 := by
          have := (List.getElem?_eq_some_iff.mp ep).1
          rw [zip_tail_len, ← Vl.len_list] at this
          exact this
        obtain ⟨m1, m2⟩ := List.of_mem_zip (List.mem_of_getElem? ep)
        have ma := gg.mem a m1
        have mb := gg.mem b (List.mem_of_mem_tail m2)
        obtain ⟨a1, a2⟩ := name_of gm ma
        obtain ⟨b1, b2⟩ := name_of gm mb
        refine wg_tup rfl ⟨_, rfl, rfl, wg_name 2 hN rfl (wg_name 3 hN rfl ?_)⟩
        refine wss_one (ws_app 1 rfl rfl (by rw [List.length_map, sums_len, sizeLine_eq]; omega) (we_sub (we_sub (we_oix (i := 1) rfl rfl ?_))))
        refine we_neg ?_
        repeat walk_at "v"
        refine ⟨1, rfl, -1, _, rfl, sums_last _ _, ?_⟩
        refine we_meth T.cl db (hr.mono (by decide)) (we_fld C.cl C.nM ?_)
        repeat walk_at "v"
        refine ⟨_, _, rfl, rfl, _, rfl, rfl, ?_⟩
        repeat walk_at "v"
        refine ⟨z, ks, sp, ss, nm, _, rfl, gm, a2, _, _, rfl, rfl, ?_⟩
        refine we_meth T.cl dS hr (we_fld C.cl C.nM ?_)
        repeat walk_at "v"
        refine ⟨_, _, rfl, rfl, _, rfl, rfl, ?_⟩
        repeat walk_at "v"
        refine ⟨z, ks, sp, ss, nm, _, _, rfl, gm, txt_one a, txt_one b, fun e => (by rw [a1] at e; cases e), fun _ e => (by rw [b1] at e; cases e), fun x y ex ey _ _ => ?_⟩
        cases ex
        cases ey
        refine ⟨_, _, rfl, rfl, some (.val (.str (one a))), some (.val (.str (one b))), ?_⟩
        have st : (stepL ks ss sp g.cps.toList)[i]? = some (0 - bodyOf ks (one a) - seatOf ss sp (one a) (one b)) := by unfold stepL; rw [List.getElem?_map, ep]; rfl
        rw [← sums_snoc _ st, List.map_append]
        have : (List.take i (stepL ks ss sp g.cps.toList)).sum - bodyOf ks (one a) - seatOf ss sp (one a) (one b) = (List.take i (stepL ks ss sp g.cps.toList)).sum + (0 - bodyOf ks (one a) - seatOf ss sp (one a) (one b)) := by omega
        rw [this]
        rfl
    · obtain ⟨o1, o2, rfl⟩ := hI
      refine wss_pub 1 rfl (wss_one (ws_ret ?_))
      repeat walk_at "v"
      refine ⟨_, .inl rfl, ?_⟩
      have e : (pairsD g.cps.toList).length = g.cps.toList.length - 1 := by
        unfold pairsD
        rw [List.length_map, zip_tail_len]
      rw [e]
      exact k
/-! ### rest_length -/
def restOf (ks : List Kd) (ss : List Se) (sp : Int) (l : List Nat) : Int := bodyOf ks (one (l.getLastD 0)) - (stepL ks ss sp l).sum
end
section
set_option maxHeartbeats 16000000
open PySem PySem.Spec PyProof.Rows L2 Vl
variable {cls : Nat → Addr} {P : Program} {w : World} {K : PySem.W.Frag} {mg : Str → Option Value} {base : Heap}
/-! ### _law_column -/
theorem body_row {s : Nat} {ks : List Kd} (h : okKs s ks) {n : Str} (hn : n ∈ ks.map (·.1)) : ∃ a c, (kindOf ks n).2[0]? = some (a, bodyOf ks n, c) := by
  obtain ⟨_, h2⟩ := atK_kind hn
  have okr := (h.2 _ h2).2.2.2
  have e0 := List.getElem?_eq_getElem (show 0 < (kindOf ks n).2.length from okr.2.1)
  obtain ⟨r, er⟩ : ∃ r, (kindOf ks n).2[0]? = some r := ⟨_, e0⟩
  refine ⟨r.1, r.2.2, ?_⟩
  unfold bodyOf
  rw [er]
  rfl
end
section
set_option maxHeartbeats 16000000
open PySem PySem.Spec PyProof.Rows L2 Vl
variable {cls : Nat → Addr} {P : Program} {w : World} {K : PySem.W.Frag} {mg : Str → Option Value} {base : Heap}
/-! ### _law_seats -/
theorem take_mem {α : Type} {l : List α} {i : Nat} {a : α} (h : l[i]? = some a) {x : α} (hx : x ∈ l.take i) : x ∈ l.take (i + 1) := by
  rw [take_get h]
  exact List.mem_append_left _ hx
end
section
set_option maxHeartbeats 16000000
open PySem PySem.Spec PyProof.Rows L2 Vl
variable {cls : Nat → Addr} {P : Program} {w : World} {K : PySem.W.Frag} {mg : Str → Option Value} {base : Heap}
/-! ### _law_raw -/
theorem made_ok {z : Str} {m : Nat} {rows : List Row} (hz : z.length ≤ 1000) (h : madeRows z m rows) (m1 : 1 ≤ m) (m6 : m ≤ 6) : okRows (z.length + 1) rows := by
  obtain ⟨h1, h2, r0, e0, h3, h4⟩ := h
  subst h1
  refine ⟨?_, m1, m6, h2⟩
  rw [wrongD_tup, if_pos (by rw [List.length_map]; exact ⟨m1, m6⟩), find_none fun i p hp => ?_]
  obtain ⟨e1, e2⟩ := zip_at hp
  rw [List.getElem?_map] at e1
  cases er : rows[i]? with
  | none => rw [er] at e1; cases e1
  | some r =>
    rw [er] at e1
    replace e1 : rowT r = p.1 := Option.some.inj e1
    unfold badAt
    rw [← e1, e2, List.length_map, standB_of (h2 r (List.mem_of_getElem? er))]
    by_cases hi : i = 0
    · subst hi
      rw [e0] at er
      cases er
      obtain ⟨a, b, c⟩ := r0
      cases c with
      | nil => simp at h4
      | cons n c =>
        have h5 : n = 0 := by simpa using h4
        have h6 : a = 0 := h3
        rw [h5, h6]
        rfl
    · simp [hi]
/-- what is drawn of a make: words, kinds in any order, a space, seats -/
structure rawG (z : Str) (ks : List Kd) (sp : Int) (ss : List Se) : Prop where
  wd : ∃ m, goodW m z ∧ 1 ≤ m ∧ m ≤ 4
  gk : okKs (z.length + 1) ks
  s0 : 0 ≤ sp
  s20 : sp ≤ 20
  gs : ∀ nm, allN ks nm → okSs nm ss
  sl : ss.length ≤ 17
theorem rawG.words {z ks sp ss} (g : rawG z ks sp ss) : wordsB (.str z) = true := let ⟨_, h, h1, h4⟩ := g.wd; goodW_words h h1 h4
theorem rawG.good {z ks sp ss nm} (g : rawG z ks sp ss) (h : allN ks nm) : goodM z ks sp ss nm := ⟨g.words, g.gk, g.s0, g.s20, h, g.gs nm h, by have := g.sl; omega⟩
theorem rawG.zl {z ks sp ss} (g : rawG z ks sp ss) : z.length ≤ 4 := words_len g.words
theorem mem_iff_ss {a b : Str} (h : ∀ n, n ∈ a.cps.toList ↔ n ∈ b.cps.toList) {ss : List Se} (g : okSs a ss) : okSs b ss := ⟨fun s hs => by
  obtain ⟨x, y, e1, e2, hx, hy, h0⟩ := g.1 s hs
  exact ⟨x, y, e1, e2, (h x).mp hx, (h y).mp hy, h0⟩, g.2⟩
end
section
set_option maxHeartbeats 16000000
open PySem PySem.Spec PyProof.Rows L2 Vl
variable {cls : Nat → Addr} {P : Program} {w : World} {K : PySem.W.Frag} {mg : Str → Option Value} {base : Heap}
/-! ### _law_groups -/
theorem strs_acc {acc : List D} {P : Nat → Prop} (h : ∀ (i : Nat) y, acc[i]? = some y → ∃ n, y = .str (one n) ∧ P n) : ∃ ns : List Nat, acc = (ns.map one).map D.str ∧ ∀ n ∈ ns, P n := by
  induction acc with
  | nil => exact ⟨[], rfl, fun n h => by simp at h⟩
  | cons x acc ih =>
    obtain ⟨ns, e, hn⟩ := ih fun i y hy => h (i + 1) y (by simpa using hy)
    obtain ⟨n, en, hp⟩ := h 0 x rfl
    refine ⟨n :: ns, by rw [e, en]; rfl, fun m hm => ?_⟩
    rcases List.mem_cons.mp hm with z | z
    · rw [z]; exact hp
    · exact hn m z
/-- a sign of a text, by a draw -/
theorem pick_sgn {z : Str} (hz : z.length ≤ 1000000) {r : Int} (r0 : 0 ≤ r) (r1 : r < z.length) : ∃ n, n ∈ z.cps.toList ∧ z.cps.toList[r.toNat]? = some n ∧ itemD (.str z) r = some (.str (one n)) := by
  obtain ⟨n, en⟩ : ∃ n, z.cps.toList[r.toNat]? = some n := ⟨_, List.getElem?_eq_getElem (by rw [← Vl.len_list]; omega)⟩
  have := item_str hz en
  rw [Int.toNat_of_nonneg r0] at this
  exact ⟨n, List.mem_of_getElem? en, en, this⟩
theorem filter_two {α} (l : List α) (p : α → Bool) : l.length = (l.filter p).length + (l.filter fun n => !p n).length := by
  induction l with
  | nil => rfl
  | cons x l ih =>
    rw [List.filter_cons, List.filter_cons, List.length_cons]
    cases h : p x
    · simp; omega
    · simp; omega
/-! ### _law_absent -/
/-! ### the names in order -/
theorem ex_names {ks : List Kd} (g : goodK ks) : ∃ nm, allN ks nm := by
  obtain ⟨l1, l4, l, nd, hc, e⟩ := g
  have ll : l.length = ks.length := by
    have := congrArg List.length e
    rw [List.length_map, List.length_map] at this
    exact this.symm
  have pm : (l.mergeSort fun a b => decide (a ≤ b)).Perm l := List.mergeSort_perm l _
  refine ⟨⟨(l.mergeSort fun a b => decide (a ≤ b)).toArray⟩, by show Array.size _ = _; rw [List.size_toArray, pm.length_eq, ll], ?_, fun n => ?_, fun n hn => hc n (pm.mem_iff.mp hn)⟩
  · have s := List.pairwise_mergeSort (le := fun a b : Nat => decide (a ≤ b)) (fun a b c h1 h2 => by simp at *; omega) (fun a b => by simp; omega) l
    have z := s.and (pm.nodup_iff.mpr nd)
    exact z.imp fun ⟨a, b⟩ => by
      have a := of_decide_eq_true a
      have b : _ ≠ _ := b
      omega
  · rw [e]
    constructor
    · intro hn
      exact List.mem_map.mpr ⟨n, pm.mem_iff.mp hn, rfl⟩
    · intro hn
      obtain ⟨m, hm, e2⟩ := List.mem_map.mp hn
      rw [← one_inj e2]
      exact pm.mem_iff.mpr hm
/-! ### _law_built -/
end
section
set_option maxHeartbeats 3000000
open PySem PySem.Spec PyProof.Rows L2 Vl
variable {cls : Nat → Addr} {P : Program} {w : World} {K : PySem.W.Frag} {mg : Str → Option Value} {base : Heap}
/-! ### _law_other -/
theorem cut_drop {ds : List D} {i : Nat} (h : i ≤ ds.length) : Vl.cutD ds (some (i : Int)) none = ds.drop i := by
  unfold Vl.cutD
  rw [HT.sIx_none, HT.sIx_nat, Nat.min_eq_left h, List.take_of_length_le (by rw [List.length_drop]; omega)]
theorem rawG.kl {z ks sp ss} (g : rawG z ks sp ss) : 1 ≤ ks.length ∧ ks.length ≤ 4 := ⟨g.gk.1.1, g.gk.1.2.1⟩
theorem cut_le {ds : List D} {lo hi : Option Int} : (Vl.cutD ds lo hi).length ≤ ds.length := by
  unfold Vl.cutD
  rw [List.length_take, List.length_drop]
  omega
end
section
set_option maxHeartbeats 3000000
open PySem PySem.Spec PyProof.Rows L2 Vl
variable {cls : Nat → Addr} {P : Program} {w : World} {K : PySem.W.Frag} {mg : Str → Option Value} {base : Heap}
/-! ### _law_make_shown -/
theorem wss_at {c : Cy cls} {st : List Stmt} {ρ ρ' : Rho} {p : Po} (e : ρ' = ρ) (h : WSs c st ρ p) : WSs c st ρ' p := e ▸ h
end
section
set_option maxHeartbeats 3000000
open PySem PySem.Spec PyProof.Rows L2 Vl
variable {cls : Nat → Addr} {P : Program} {w : World} {K : PySem.W.Frag} {mg : Str → Option Value} {base : Heap}
section
variable {c : Cy cls} {ρ : Rho}
theorem we_lower {a : Expr} {apos pos : Pos} {P : D → Prop} {ex : Xd → Prop} (h : WE c a ρ (fun x => ∃ z, x = .str z ∧ z.length ≤ 5592405 ∧ P (.str (Txt.lower z))) ex)
    (hp : PE c.X (.Call (.Attribute a "lower" apos) [] [] pos) (tBM0 c.X.K "str" (fun x xs H Q => ∃ a, x = .str a ∧ xs = [] ∧ a.length ≤ 5592405 ∧ Q (.str (Txt.lower a)) H) (tU c a)) := by exact pe_bm0 PySem.F.plainAttrs_str PySem.F.slot_str_lower PySem.F.type_str_lower mt_lower (peU _ _)) :
    WE c (.Call (.Attribute a "lower" apos) [] [] pos) ρ P ex :=
  we_bmS0 (F := fun z P => z.length ≤ 5592405 ∧ P (.str (Txt.lower z))) hp (fun R H z P nd ok f Q kk => ⟨z, rfl, rfl, f.1, kk _ _ (Fin.here ok nd (.str _) f.2)⟩) h
end
theorem lower_cap : ∀ n ∈ capitals, Txt.lower (one n) = one (n + 32) := by decide +kernel
theorem cap_range : ∀ n ∈ capitals, 65 ≤ n ∧ n ≤ 90 := by decide +kernel
/-! ### _law_bad_name -/
/-! ### _law_names_refused -/
/-! ### _law_columns_refused -/
end
section
set_option maxHeartbeats 6000000
open PySem PySem.Spec PyProof.Rows L2 Vl
variable {cls : Nat → Addr} {P : Program} {w : World} {K : PySem.W.Frag} {mg : Str → Option Value} {base : Heap}
/-! ### == of raw makes -/
/-! ### the law -/
def spLaw (K : PySem.W.Frag) : Sp := fun vs H Q _ => ∃ (a : Addr) (ns : List Int), vs = [.ref a] ∧ SqL K H a (ns.map V.int) ∧ ns.length ≤ 63 ∧ ∀ H', Q (.bl true) H'
end
section
set_option maxHeartbeats 16000000
open PySem PySem.Spec PyProof.Rows L2 Vl
variable {cls : Nat → Addr} {P : Program} {w : World} {K : PySem.W.Frag} {mg : Str → Option Value} {base : Heap}
theorem ok_makeD {f : Addr} {fd : FuncData} {t : Tok} {T0 : Addr} (nb : NB mg) (hS : mg "MOST_SPACE" = some (.int 20 t)) (T : MkC K (cls 26)) (d1 : Df P w K mg base cls "check_words" 4 ["words"] fs_check_words) (d2 : Df P w K mg base cls "frozen" 7 ["thing"] (fs_frozen 6)) (d2e : Df P w K mg base cls "frozen" 1 ["thing"] (fs_frozenE K)) (d3 : Df P w K mg base cls "check_kinds" 6 ["words", "rows"] fs_check_kinds)
    (d4 : Df P w K mg base cls "in_bounds" 2 ["thing", "least", "most"] fs_in_bounds) (d5 : Df P w K mg base cls "check_seats" 4 ["names", "rows"] fs_check_seats)
    (x1 : Er P w K mg base cls "BadSpace" 7 ["space"]) (F : FunD K "__init__" "Make.__init__" (defArgs k_init) (defBody k_init) (defScope k_init) [.int 1, .ref T0] [] f fd) : FnOk P w K mg base (L2N.CX P w) 8 f fd ["self", "words", "kinds", "space", "seats"] (spInit cls 26 (fi_make K)) := by
  refine init_okD F sk_init (fun ds rt ex h => ?_) (fun cdv A outer s H E W R Hb a ds rt ex hr h => ?_)
  · unfold fi_make at h
    obtain ⟨_, _, _, _, rfl, _⟩ := h
    rfl
  · unfold fi_make at h
    obtain ⟨dw, dk, dsp, dse, rfl, hw, hk, hsp, hse, k1, k2⟩ := h
    have hN := sk_init.nd
    refine wss_cons (ws_expr (we_call d1 (hr.mono (by decide)) ?_))
    repeat walk_at "v"
    refine ⟨dw, rfl, hw, fun e => ?_, k1⟩
    obtain ⟨z, rfl, z1, z4⟩ := words_str e
    obtain ⟨k2, k3, k4⟩ := k2 z rfl e
    refine wss_cons (ws_set 5 hN rfl (we_call d2 hr ?_))
    repeat walk_at "v"
    refine ⟨dk, rfl, hk, ?_⟩
    refine wss_cons (ws_expr (we_call d3 (hr.mono (by decide)) ?_))
    repeat walk_at "v"
    unfold fs_check_kinds
    refine ⟨z, _, rfl, by omega, ⟨6, okD_remk hk⟩, k2, k3, fun kb => ?_⟩
    obtain ⟨ks, ek, okk⟩ := kinds_inv kb
    obtain ⟨k5, k6⟩ := k4 ks ek okk
    rw [ek]
    refine wss_cons (ws_if (wt_not (wt_val (we_call d4 (hr.mono (by decide)) ?_))))
    repeat walk_at "v"
    refine we_gint hS ?_
    refine ⟨dsp, _, _, rfl, hsp, _, rfl, fun e1 => ?_, fun e1 => ?_⟩
    · refine wss_one (ws_raise (we_mkx x1 (hr.mono (by decide)) ?_))
      repeat walk_at "v"
      exact k5 (by simpa using e1)
    obtain ⟨sp, rfl, sp0, sp20⟩ := inB_int (show inB dsp 0 20 = true by simpa using e1)
    refine wss_nil (wss_cons (ws_set 6 hN rfl (we_join ?_)))
    repeat walk_at "v"
    refine ⟨_, rfl, we_sortedS nb ?_⟩
    have hl4 := okk.1.2.1
    refine we_lc 8 hN (LC.map (wi_tup ?_))
    repeat walk_at "v"
    refine ⟨ks.map kindT, rfl, by rw [List.length_map]; omega, fun i x y => y = (match x with | .tup (d :: _) => d | _ => .non), fun i x hi => ⟨_, rfl, fun s0 H0 C cl fp => ?_⟩, fun acc e1 e2 => ?_⟩
    · rw [List.getElem?_map] at hi
      cases eq : ks[i]? with
      | none => rw [eq] at hi; cases hi
      | some q =>
        rw [eq] at hi
        cases hi
        refine we_ix ?_
        repeat walk_at "v"
        exact ⟨_, _, rfl, item_tup (i := 0) rfl, rfl⟩
    rw [acc_map (g := fun x => match x with | .tup (d :: _) => d | _ => .non) e1 (fun i d y h1 h2 => e2 i d y h1 h2), List.map_map]
    refine ⟨ks.map (·.1), by rw [List.map_map]; rfl, by rw [List.length_map]; omega, fun ys hy hs => ?_⟩
    obtain ⟨an, sm, ln⟩ := allN_mk okk.1 hy hs
    refine ⟨ys, rfl, by rw [sm]; have : ("" : Str).length = 0 := rfl; rw [this]; omega, ?_⟩
    generalize Txt.join ("" : Str) ys = nm at an
    obtain ⟨k7, k8, k9⟩ := k6 sp nm rfl sp0 sp20 an
    have ok6 : okD 6 (tupled dse) := by
      rcases hse with hse | ⟨b, rfl, _⟩
      · exact okD_remk hse
      · exact .inr ⟨[], .inr rfl, by simp, fun x hx => by cases hx⟩
    refine wss_cons (ws_set 7 hN rfl (WE.mono (P := fun d => d = tupled dse) ?_ fun d ed => ?_))
    · rcases hse with hse | ⟨b, rfl, ke⟩
      · refine we_call d2 hr ?_
        repeat walk_at "v"
        exact ⟨dse, rfl, hse, rfl⟩
      · refine we_call d2e (hr.mono (by decide)) ?_
        repeat walk_at "v"
        exact ⟨b, rfl, ke, rfl⟩
    subst ed
    refine wss_cons (ws_expr (we_call d5 (hr.mono (by decide)) ?_))
    repeat walk_at "v"
    unfold fs_check_seats
    refine ⟨nm, _, rfl, ⟨6, ok6⟩, k7, k8, fun sb => ?_⟩
    obtain ⟨ss, es, oks⟩ := seats_inv sb
    have k9 := k9 ss es oks
    rw [es]
    have ls : ss.length ≤ 1000000 := by
      have := okX_seq (.inr es) ⟨6, ok6⟩
      rw [List.length_map] at this
      exact this.1
    refine wss_cons (ws_fld 0 T.cl T.nW rfl rfl ?_)
    repeat walk_at "v"
    refine wss_cons (ws_fld 0 T.cl T.nK rfl rfl (hl := (by decide : 1 < 1000)) ?_)
    repeat walk_at "v"
    refine wss_cons (ws_fld 0 T.cl T.nSp rfl rfl (hl := (by decide : 2 < 1000)) ?_)
    repeat walk_at "v"
    refine wss_cons (ws_fld 0 T.cl T.nSe rfl rfl (hl := (by decide : 3 < 1000)) ?_)
    repeat walk_at "v"
    refine wss_cons (ws_fld 0 T.cl T.nN rfl rfl (hl := (by decide : 4 < 1000)) ?_)
    repeat walk_at "v"
    refine wss_cons (ws_fld 0 T.cl T.nKo rfl rfl (hl := (by decide : 5 < 1000)) (we_dcK _ drd_str 8 hr hN (wi_tup ?_)))
    repeat walk_at "v"
    refine ⟨ks.map kindT, rfl, by rw [List.length_map]; omega, kindKeys ks, ks.map kindT, by unfold kindKeys; rw [List.length_map, List.length_map], rfl, ?_, fun i d k y h1 h2 h3 => ?_, ?_⟩
    · obtain ⟨_, _, l, nd, _, el⟩ := okk.1
      have : kindKeys ks = (l.map one).map Sum.inr := by rw [← el, List.map_map]; rfl
      rw [this]
      refine List.pairwise_map.mpr (List.pairwise_map.mpr (nd.imp fun h z => h (one_inj (Sum.inr.inj z))))
    · rw [List.getElem?_map] at h1
      unfold kindKeys at h2
      rw [List.getElem?_map] at h2 h3
      cases eq : ks[i]? with
      | none => rw [eq] at h1; cases h1
      | some q =>
        rw [eq] at h1 h2 h3
        cases h1
        cases h2
        cases h3
        refine ⟨_, rfl, fun s0 H0 C cl fp => ?_, fun s0 H0 C cl fp => ?_⟩
        · refine we_ix ?_
          repeat walk_at "v"
          exact ⟨_, _, rfl, item_tup (i := 0) rfl, rfl⟩
        · repeat walk_at "v"
          rfl
    refine wss_one (ws_fld 0 T.cl T.nP rfl rfl (hl := (by decide : 6 < 1000)) (we_dcK _ drd_tup 8 hr hN (wi_tup ?_)))
    repeat walk_at "v"
    refine ⟨ss.map seatT, rfl, by rw [List.length_map]; omega, ss.map seatKey, ss.map fun s => .int s.2.2, by rw [List.length_map, List.length_map], by rw [List.length_map, List.length_map], oks.2, fun i d k y h1 h2 h3 => ?_, ?_⟩
    · rw [List.getElem?_map] at h1 h2 h3
      cases eq : ss[i]? with
      | none => rw [eq] at h1; cases h1
      | some q =>
        rw [eq] at h1 h2 h3
        cases h1
        cases h2
        cases h3
        refine ⟨_, rfl, fun s0 H0 C cl fp => ?_, fun s0 H0 C cl fp => ?_⟩
        · refine we_tup ?_
          refine we_ix ?_
          repeat walk_at "v"
          refine ⟨_, _, rfl, item_tup (i := 0) rfl, ?_⟩
          refine we_ix ?_
          repeat walk_at "v"
          exact ⟨_, _, rfl, item_tup (i := 1) rfl, rfl⟩
        · refine we_ix ?_
          repeat walk_at "v"
          exact ⟨_, _, rfl, item_tup (i := 2) rfl, rfl⟩
    exact ⟨_, rfl, k9⟩
end
section
set_option maxHeartbeats 4000000
open PySem PySem.Spec PyProof.Rows L2 Vl
variable {cls : Nat → Addr} {P : Program} {w : World} {K : PySem.W.Frag} {mg : Str → Option Value} {base : Heap}
/-! ### is_wish -/
/-! ### wish_of -/
/-! ### keeps -/
/-! ### beats_of -/
/-- the last group's delay -/
def delT (ks : List Kd) (l : List Nat) : Int := ((lagsL ks l).take (l.length - 1)).sum
end
section
set_option maxHeartbeats 16000000
open PySem PySem.Spec PyProof.Rows L2 Vl
variable {cls : Nat → Addr} {P : Program} {w : World} {K : PySem.W.Frag} {mg : Str → Option Value} {base : Heap}
theorem eqB_ints (a b : List Int) : eqB (intsT a) (intsT b) = decide (a = b) := by
  unfold eqB
  rw [pyOf, pyOf, PyData.eqv]
  exact eqv_ints a b
theorem eqOk_ints {ns : List Int} (h : ns.length ≤ 1000000) : eqOk (intsT ns) := by
  refine ⟨⟨1, okD_tup (by rw [List.length_map]; exact h) okD_ints⟩, ?_⟩
  obtain ⟨h1, h2⟩ := py_ints ns
  show (PyData.canLay0 (pyOf (.tup _)) && decide (PyData.depth (pyOf (.tup _)) ≤ 64)) = true
  rw [pyOf, PyData.canLay0, PyData.depth, h1, decide_eq_true (by omega)]
  rfl
/-! ### _law_row -/
/-! ### _law_breach -/
end
section
set_option maxHeartbeats 16000000
open PySem PySem.Spec PyProof.Rows L2 Vl
variable {cls : Nat → Addr} {P : Program} {w : World} {K : PySem.W.Frag} {mg : Str → Option Value} {base : Heap}
abbrev s_kind : Stmt := top 65
theorem sc_kind : FnScope ["_law_make_here", "_law_name", "_law_kind_here"] ["_law_make_here", "_law_name"] (defScope s_kind) := ⟨rfl, rfl, rfl, by decide +kernel, rfl, by decide +kernel, by decide +kernel⟩
theorem nv_sc_kind : NmOk ["_law_make_here", "_law_name", "_law_kind_here"] (defScope s_kind) 3 := ⟨by decide +kernel⟩
theorem ok_kind {f : Addr} {fd : FuncData} (F : Fun K "_law_kind" "_law_kind" s_kind f fd) : FnOk P w K mg base (L2N.CX P w) 1 f fd ["_law_make_here", "_law_name"] (spOf cls fs_kind) := by
  have hV := nv_sc_kind
  refine def_ok F sc_kind (fun ds rt ex h => ?_) (fun cdv A outer s H E W R ds rt ex hr h => ?_)
  · obtain ⟨_, _, _, _, _, rfl, _⟩ := h
    rfl
  · obtain ⟨z, ks, sp, ss, n, rfl, k⟩ := h
    have hN := sc_kind.nd
    refine wss_cons (ws_for rfl (wi_tup (we_ix ?_)))
    repeat walk_at "v"
    refine ⟨_, _, rfl, item_tup (i := 1) rfl, _, rfl, fun i ρ' => (∀ (j : Nat) (q : Kd), j < i → ks[j]? = some q → decide (q.1 = n) = false) ∧ ∃ o, ρ' = [some (.val (rawD z ks sp ss)), some (.val (.str n)), o], ⟨fun j q h => absurd h (Nat.not_lt_zero _), none, rfl⟩, fun i d ρ' hi hI => ?_, fun ρ' hI => ?_⟩
    · rw [List.getElem?_map] at hi
      cases eq : ks[i]? with
      | none => rw [eq] at hi; cases hi
      | some q =>
        rw [eq] at hi
        cases hi
        obtain ⟨hI, o, rfl⟩ := hI
        refine wg_name 2 hN rfl ?_
        refine wss_one (ws_if (wt_eq (we_ix ?_)))
        repeat walk_at "v"
        refine ⟨_, _, rfl, item_tup (i := 0) rfl, ?_⟩
        repeat walk_at "v"
        refine ⟨.str q.1, .str n, rfl, rfl, rfl, _, rfl, fun e => ?_, fun e => ?_⟩
        · refine wss_one (ws_ret (we_tup ?_))
          refine we_ix ?_
          repeat walk_at "v"
          refine ⟨_, _, rfl, item_tup (i := 1) rfl, ?_⟩
          refine we_ix ?_
          repeat walk_at "v"
          refine ⟨_, _, rfl, item_tup (i := 2) rfl, ?_⟩
          have e1 : q.1 = n := by have := of_decide_eq_true e; simpa using this
          have : kindOf ks n = q.2 := by unfold kindOf; rw [find_at hI eq (decide_eq_true e1)]
          rw [this] at k
          exact k
        · refine wss_nil ⟨fun j q' hj hq => ?_, _, rfl⟩
          by_cases hji : j < i
          · exact hI j q' hji hq
          · have : j = i := by omega
            subst this
            rw [eq] at hq
            cases hq
            have e : ¬ (V.str q.1 = V.str n) := of_decide_eq_false e
            exact decide_eq_false fun h => e (by rw [h])
    · obtain ⟨hI, o, rfl⟩ := hI
      refine wss_one (ws_ret (we_tup ?_))
      repeat walk_at "v"
      have : kindOf ks n = (1, [(0, 1, [0])]) := by
        unfold kindOf
        rw [find_no fun j q hq => hI j q (by rw [List.length_map]; exact (List.getElem?_eq_some_iff.mp hq).1) hq]
      rw [this] at k
      exact k
abbrev s_seat : Stmt := top 66
theorem sc_seat : FnScope ["_law_make_here", "_law_ahead", "_law_behind", "_law_seat_here"] ["_law_make_here", "_law_ahead", "_law_behind"] (defScope s_seat) := ⟨rfl, rfl, rfl, by decide +kernel, rfl, by decide +kernel, by decide +kernel⟩
theorem nv_sc_seat : NmOk ["_law_make_here", "_law_ahead", "_law_behind", "_law_seat_here"] (defScope s_seat) 4 := ⟨by decide +kernel⟩
theorem ok_seat {f : Addr} {fd : FuncData} (F : Fun K "_law_seat" "_law_seat" s_seat f fd) : FnOk P w K mg base (L2N.CX P w) 1 f fd ["_law_make_here", "_law_ahead", "_law_behind"] (spOf cls fs_seat) := by
  have hV := nv_sc_seat
  refine def_ok F sc_seat (fun ds rt ex h => ?_) (fun cdv A outer s H E W R ds rt ex hr h => ?_)
  · obtain ⟨_, _, _, _, _, _, rfl, _⟩ := h
    rfl
  · obtain ⟨z, ks, sp, ss, a, b, rfl, k⟩ := h
    have hN := sc_seat.nd
    refine wss_cons (ws_for rfl (wi_tup (we_ix ?_)))
    repeat walk_at "v"
    refine ⟨_, _, rfl, item_tup (i := 3) rfl, _, rfl, fun i ρ' => (∀ (j : Nat) (q : Se), j < i → ss[j]? = some q → decide (q.1 = a ∧ q.2.1 = b) = false) ∧ ∃ o, ρ' = [some (.val (rawD z ks sp ss)), some (.val (.str a)), some (.val (.str b)), o], ⟨fun j q h => absurd h (Nat.not_lt_zero _), none, rfl⟩, fun i d ρ' hi hI => ?_, fun ρ' hI => ?_⟩
    · rw [List.getElem?_map] at hi
      cases eq : ss[i]? with
      | none => rw [eq] at hi; cases hi
      | some q =>
        rw [eq] at hi
        cases hi
        obtain ⟨hI, o, rfl⟩ := hI
        have next : ¬ (q.1 = a ∧ q.2.1 = b) → ∀ (j : Nat) (q' : Se), j < i + 1 → ss[j]? = some q' → decide (q'.1 = a ∧ q'.2.1 = b) = false := fun ne j q' hj hq => by
          by_cases hji : j < i
          · exact hI j q' hji hq
          · have : j = i := by omega
            subst this
            rw [eq] at hq
            cases hq
            exact decide_eq_false ne
        refine wg_name 3 hN rfl ?_
        refine wss_one (ws_if (wt_wp (wp_and (wt_eq (we_ix ?_)))))
        repeat walk_at "v"
        refine ⟨_, _, rfl, item_tup (i := 0) rfl, ?_⟩
        repeat walk_at "v"
        refine ⟨.str q.1, .str a, rfl, rfl, rfl, _, rfl, fun e => ?_, fun e => ?_⟩
        · refine wp_and1 (wt_eq (we_ix ?_))
          repeat walk_at "v"
          refine ⟨_, _, rfl, item_tup (i := 1) rfl, ?_⟩
          repeat walk_at "v"
          refine ⟨.str q.2.1, .str b, rfl, rfl, rfl, _, rfl, fun e2 => ?_, fun e2 => ?_⟩
          · refine wss_one (ws_ret (we_ix ?_))
            repeat walk_at "v"
            refine ⟨_, _, rfl, item_tup (i := 2) rfl, ?_⟩
            have e1 : q.1 = a := by have := of_decide_eq_true e; simpa using this
            have e3 : q.2.1 = b := by have := of_decide_eq_true e2; simpa using this
            have : seatOf ss sp a b = q.2.2 := by unfold seatOf; rw [find_at hI eq (decide_eq_true ⟨e1, e3⟩)]
            rw [this] at k
            exact k
          · have e2 : ¬ (V.str q.2.1 = V.str b) := of_decide_eq_false e2
            exact wss_nil ⟨next fun h => e2 (by rw [h.2]), _, rfl⟩
        · have e : ¬ (V.str q.1 = V.str a) := of_decide_eq_false e
          exact ⟨fun z => Bool.noConfusion z, fun _ => wss_nil ⟨next fun h => e (by rw [h.1]), _, rfl⟩⟩
    · obtain ⟨hI, o, rfl⟩ := hI
      refine wss_one (ws_ret (we_ix ?_))
      repeat walk_at "v"
      refine ⟨_, _, rfl, item_tup (i := 2) rfl, ?_⟩
      have : seatOf ss sp a b = sp := by
        unfold seatOf
        rw [find_no fun j q hq => hI j q (by rw [List.length_map]; exact (List.getElem?_eq_some_iff.mp hq).1) hq]
      rw [this] at k
      exact k
abbrev s_all : Stmt := top 67
theorem sc_all : FnScope ["_law_make_here", "_law_kind_here"] ["_law_make_here"] (defScope s_all) := ⟨rfl, rfl, rfl, by decide +kernel, rfl, by decide +kernel, by decide +kernel⟩
theorem nv_sc_all : NmOk ["_law_make_here", "_law_kind_here"] (defScope s_all) 1 := ⟨by decide +kernel⟩
theorem ok_all {f : Addr} {fd : FuncData} (nb : NB mg) (F : Fun K "_law_all_names" "_law_all_names" s_all f fd) : FnOk P w K mg base (L2N.CX P w) 1 f fd ["_law_make_here"] (spOf cls fs_all) := by
  have hV := nv_sc_all
  refine def_ok F sc_all (fun ds rt ex h => ?_) (fun cdv A outer s H E W R ds rt ex hr h => ?_)
  · obtain ⟨_, _, _, _, rfl, _⟩ := h
    rfl
  · obtain ⟨z, ks, sp, ss, rfl, g, k⟩ := h
    have hN := sc_all.nd
    refine wss_one (ws_ret (we_join ?_))
    repeat walk_at "v"
    refine ⟨_, rfl, we_sortedS nb ?_⟩
    refine we_lc 1 hN (LC.map (wi_tup (we_ix ?_)))
    repeat walk_at "v"
    refine ⟨_, _, rfl, item_tup (i := 1) rfl, ks.map kindT, rfl, by rw [List.length_map]; have := g.2.1; omega, fun i x y => y = (match x with | .tup (d :: _) => d | _ => .non), fun i x hi => ⟨_, rfl, fun s0 H0 C cl fp => ?_⟩, fun acc e1 e2 => ?_⟩
    · rw [List.getElem?_map] at hi
      cases eq : ks[i]? with
      | none => rw [eq] at hi; cases hi
      | some q =>
        rw [eq] at hi
        cases hi
        refine we_ix ?_
        repeat walk_at "v"
        exact ⟨_, _, rfl, item_tup (i := 0) rfl, rfl⟩
    · rw [acc_map (g := fun x => match x with | .tup (d :: _) => d | _ => .non) e1 (fun i d y h1 h2 => e2 i d y h1 h2), List.map_map]
      refine ⟨ks.map (·.1), by rw [List.map_map]; rfl, by rw [List.length_map]; have := g.2.1; omega, fun ys hy hs => ?_⟩
      obtain ⟨o, sm, ln⟩ := allN_mk g hy hs
      exact ⟨ys, rfl, by rw [sm]; have := g.2.1; have : ("" : Str).length = 0 := rfl; rw [this]; omega, k _ o⟩
/-- groups by the names of kinds, up to 100 -/
structure goodP (ks : List Kd) (g : Str) : Prop where
  l1 : 1 ≤ g.length
  l60 : g.length ≤ 100
  mem : ∀ n ∈ g.cps.toList, one n ∈ ks.map (·.1)
def fs_columnP : FS := fun ds rt _ => ∃ z ks sp ss g s, ds = [rawD z ks sp ss, .str g] ∧ okKs s ks ∧ goodP ks g ∧ rt (.tup [.lst ((delayL ks g.cps.toList).map D.int), .lst ((frontL ks ss sp g.cps.toList).map D.int)])
abbrev s_column : Stmt := top 69
theorem sc_column : FnScope ["_law_make_here", "_law_groups", "_law_delays", "_law_places", "_law_at", "_law_lag", "_law_rows"] ["_law_make_here", "_law_groups"] (defScope s_column) := ⟨rfl, rfl, rfl, by decide +kernel, rfl, by decide +kernel, by decide +kernel⟩
theorem nv_sc_column : NmOk ["_law_make_here", "_law_groups", "_law_delays", "_law_places", "_law_at", "_law_lag", "_law_rows"] (defScope s_column) 7 := ⟨by decide +kernel⟩
theorem ok_column {f : Addr} {fd : FuncData} (nb : NB mg) (d1 : Df P w K mg base cls "_law_kind" 1 ["_law_make_here", "_law_name"] fs_kind) (d2 : Df P w K mg base cls "_law_seat" 1 ["_law_make_here", "_law_ahead", "_law_behind"] fs_seat) (F : Fun K "_law_column" "_law_column" s_column f fd) :
    FnOk P w K mg base (L2N.CX P w) 2 f fd ["_law_make_here", "_law_groups"] (spOf cls fs_columnP) := by
  have hV := nv_sc_column
  refine def_ok F sc_column (fun ds rt ex h => ?_) (fun cdv A outer s H E W R ds rt ex hr h => ?_)
  · obtain ⟨_, _, _, _, _, _, rfl, _⟩ := h
    rfl
  · obtain ⟨z, ks, sp, ss, g, s0, rfl, ok, gl, k⟩ := h
    have hN := sc_column.nd
    have l1 := gl.l1
    have l60 := gl.l60
    refine wss_cons (ws_own 2 hN rfl ?_)
    repeat walk_at "v"
    refine wss_cons (ws_own 3 hN rfl ?_)
    repeat walk_at "v"
    refine wss_cons (ws_for rfl (wi_range2 (nb _ (by decide)) ?_))
    repeat walk_at "v"
    refine ⟨g.length, len_str (by omega), 1, g.length, rfl, rfl, by omega, fun i ρ' => ∃ o1 o2 o3, ρ' = [some (.val (rawD z ks sp ss)), some (.val (.str g)), some (.lst ((sumsL (lagsL ks g.cps.toList) i).map D.int)), some (.lst ((sumsL (stepL ks ss sp g.cps.toList) i).map D.int)), o1, o2, o3], ⟨_, _, _, rfl⟩, fun i d ρ' hi hI => ?_, fun ρ' hI => ?_⟩
    · obtain ⟨hlt, rfl⟩ := rangeD_get hi
      have lt : i + 1 < g.length := by omega
      obtain ⟨o1, o2, o3, rfl⟩ := hI
      obtain ⟨a, ea⟩ : ∃ a, g.cps.toList[i]? = some a := ⟨_, List.getElem?_eq_getElem (show i < g.cps.toList.length by rw [← Vl.len_list]; omega)⟩
      obtain ⟨b, eb⟩ : ∃ b, g.cps.toList[i + 1]? = some b := ⟨_, List.getElem?_eq_getElem (show i + 1 < g.cps.toList.length by rw [← Vl.len_list]; omega)⟩
      have na := gl.mem a (List.mem_of_getElem? ea)
      obtain ⟨ra, rc, er⟩ := body_row ok na
      have ep : (g.cps.toList.zip g.cps.toList.tail)[i]? = some (a, b) := zip_tail_get ea eb
      have st1 : (lagsL ks g.cps.toList)[i]? = some (kindOf ks (one a)).1 := by
        unfold lagsL
        rw [List.getElem?_map, dropLast_take, List.getElem?_take, if_pos (by rw [← Vl.len_list]; omega), ea]
        rfl
      have st2 : (stepL ks ss sp g.cps.toList)[i]? = some (0 - bodyOf ks (one a) - seatOf ss sp (one a) (one b)) := by unfold stepL; rw [List.getElem?_map, ep]; rfl
      have i1 : (1 : Int) + (i : Nat) - 1 = (i : Nat) := by omega
      have i2 : (1 : Int) + (i : Nat) = ((i + 1 : Nat) : Int) := by omega
      refine wg_name 4 hN rfl ?_
      refine wss_cons (ws_asg (we_call d1 (hr.mono (by decide)) ?_))
      repeat walk_at "v"
      refine we_ix ?_
      repeat walk_at "v"
      refine ⟨_, _, rfl, rfl, _, .str (one a), rfl, by rw [i1]; exact item_str (by omega) ea, z, ks, sp, ss, one a, rfl, ?_⟩
      refine wg_tup rfl ⟨_, rfl, rfl, wg_name 5 hN rfl (wg_name 6 hN rfl ?_)⟩
      refine wss_cons (ws_app 2 rfl rfl (by rw [List.length_map, sums_len, sizeLine_eq]; omega) (we_add (we_oix (i := 2) rfl rfl ?_)))
      refine we_neg ?_
      repeat walk_at "v"
      refine ⟨1, rfl, -1, _, rfl, sums_last _ _, ?_⟩
      repeat walk_at "v"
      refine ⟨_, _, rfl, rfl, ?_⟩
      refine wss_one (ws_app 3 rfl rfl (by rw [List.length_map, sums_len, sizeLine_eq]; omega) (we_sub (we_sub (we_oix (i := 3) rfl rfl ?_))))
      refine we_neg ?_
      repeat walk_at "v"
      refine ⟨1, rfl, -1, _, rfl, sums_last _ _, ?_⟩
      refine we_ix (we_ix ?_)
      repeat walk_at "v"
      refine ⟨0, rowT (ra, bodyOf ks (one a), rc), rfl, item_tup (i := 0) (by rw [List.getElem?_map, er]; rfl), ?_⟩
      repeat walk_at "v"
      refine ⟨_, _, rfl, item_tup (i := 1) rfl, _, _, rfl, rfl, ?_⟩
      refine we_call d2 (hr.mono (by decide)) ?_
      repeat walk_at "v"
      refine we_ix ?_
      repeat walk_at "v"
      refine ⟨_, _, rfl, rfl, _, .str (one a), rfl, by rw [i1]; exact item_str (by omega) ea, ?_⟩
      refine we_ix ?_
      repeat walk_at "v"
      refine ⟨_, .str (one b), rfl, by rw [i2]; exact item_str (by omega) eb, z, ks, sp, ss, one a, one b, rfl, ?_⟩
      refine ⟨_, _, rfl, rfl, some (.val (.int (1 + (i : Nat)))), some (.val (.int (kindOf ks (one a)).1)), some (.val (rowsT (kindOf ks (one a)).2)), ?_⟩
      rw [← sums_snoc _ st1, ← sums_snoc _ st2, List.map_append, List.map_append]
      have : (List.take i (stepL ks ss sp g.cps.toList)).sum - bodyOf ks (one a) - seatOf ss sp (one a) (one b) = (List.take i (stepL ks ss sp g.cps.toList)).sum + (0 - bodyOf ks (one a) - seatOf ss sp (one a) (one b)) := by omega
      rw [this]
      rfl
    · obtain ⟨o1, o2, o3, rfl⟩ := hI
      rw [rangeD_length]
      refine wss_pub 2 rfl (wss_pub 3 rfl (wss_one (ws_ret ?_)))
      repeat walk_at "v"
      have e : ((g.length : Int) - 1).toNat = g.cps.toList.length - 1 := by rw [← Vl.len_list]; omega
      rw [e]
      exact k
end
section
set_option maxHeartbeats 16000000
open PySem PySem.Spec PyProof.Rows L2 Vl
variable {cls : Nat → Addr} {P : Program} {w : World} {K : PySem.W.Frag} {mg : Str → Option Value} {base : Heap}
theorem pick_of {xs : List D} {n : Nat} {P : D → Prop} (hl : xs.length = n) (h : ∀ d ∈ xs, P d) {v : Int} (v0 : 0 ≤ v) (v1 : v < n) : ∃ d, itemD (.lst xs) v = some d ∧ P d := by
  have hv : v.toNat < xs.length := by omega
  have e := List.getElem?_eq_getElem hv
  refine ⟨_, ?_, h _ (List.mem_of_getElem? e)⟩
  have := item_lst e
  rw [Int.toNat_of_nonneg v0] at this
  exact this
theorem pick_int {xs : List Int} {n : Nat} {lo hi : Int} (hl : xs.length = n) (h : ∀ x ∈ xs, lo ≤ x ∧ x ≤ hi) {v : Int} (v0 : 0 ≤ v) (v1 : v < n) : ∃ x : Int, itemD (.lst (xs.map D.int)) v = some (.int x) ∧ lo ≤ x ∧ x ≤ hi := by
  obtain ⟨d, e, x, rfl, h1⟩ := pick_of (xs := xs.map D.int) (n := n) (P := fun d => ∃ x, d = .int x ∧ lo ≤ x ∧ x ≤ hi) (by rw [List.length_map]; exact hl) (fun d hd => by
    obtain ⟨x, hx, rfl⟩ := List.mem_map.mp hd
    exact ⟨x, rfl, h x hx⟩) v0 v1
  exact ⟨x, e, h1⟩
/-- an if, what holds behind it told -/
theorem ws_ifQ {c : Cy cls} {ρ : Rho} {t : Expr} {a b : List Stmt} {pos : Pos} {p : Po} (Q : Rho → Prop) (h : WT c t ρ (fun k => (k = true → WSs c a ρ { p with nx := Q }) ∧ (k = false → WSs c b ρ { p with nx := Q })) (p.ex ρ)) (k : ∀ ρ', Q ρ' → p.nx ρ') : WS c (.If t a b pos) ρ p :=
  ws_if (h.mono fun b hb => ⟨fun e => (hb.1 e).mono k (fun _ _ h => h) (fun _ h => h) (fun _ h => h) fun _ _ h => h, fun e => (hb.2 e).mono k (fun _ _ h => h) (fun _ h => h) (fun _ h => h) fun _ _ h => h⟩)
theorem was_nil {c : Cy cls} {ρ : Rho} {ex : Xd → Prop} {P : List D → Prop} (h : P []) : WAs c ρ ex [] P := h
/-! ### _law_is_int -/
abbrev s_isint : Stmt := top 59
theorem sc_isint : FnScope ["_law_thing"] ["_law_thing"] (defScope s_isint) := ⟨rfl, rfl, rfl, by decide +kernel, rfl, by decide +kernel, by decide +kernel⟩
theorem nv_sc_isint : NmOk ["_law_thing"] (defScope s_isint) 1 := ⟨by decide +kernel⟩
theorem ok_isint {f : Addr} {fd : FuncData} (nb : NB mg) (F : Fun K "_law_is_int" "_law_is_int" s_isint f fd) : FnOk P w K mg base (L2N.CX P w) 1 f fd ["_law_thing"] (spOf cls fs_is_integer) := by
  have hV := nv_sc_isint
  refine def_ok F sc_isint (fun ds rt ex h => ?_) (fun cdv A outer s H E W R ds rt ex hr h => ?_)
  · obtain ⟨d, rfl, _⟩ := h
    rfl
  · obtain ⟨d, rfl, hd, k⟩ := h
    refine wss_one (ws_ret ?_)
    repeat walk_at "v"
    refine ⟨hd, _, rfl, fun e => ?_, fun e => ?_⟩
    · repeat walk_at "v"
      refine ⟨hd, _, rfl, ?_⟩
      rw [e] at k
      exact k
    · rw [e] at k
      exact k
/-! ### _law_drill -/
abbrev s_drill : Stmt := top 62
abbrev drillN : List Str := ["_law_draw_here", "_law_words_here", "_law_many", "_law_steady", "_law_rows", "_law_number", "_law_stride", "_law_body", "_law_silent", "_law_nexts", "_law_word"]
theorem sc_drill : FnScope drillN ["_law_draw_here", "_law_words_here", "_law_many", "_law_steady"] (defScope s_drill) := ⟨rfl, rfl, rfl, by decide +kernel, rfl, by decide +kernel, by decide +kernel⟩
theorem nv_sc_drill : NmOk drillN (defScope s_drill) 11 := ⟨by decide +kernel⟩
def fs_drill : FS := fun ds rt _ => ∃ (z : Str) (m : Nat) (fr : Bool), ds = [.own 1, .str z, .int (m : Nat), .bl fr] ∧ 1 ≤ z.length ∧ z.length ≤ 1000 ∧ 1 ≤ m ∧ m ≤ 6 ∧ ∀ rows, madeRows z m rows → rt (rowsT rows)
theorem ok_drill {f : Addr} {fd : FuncData} (nb : NB mg) (d1 : Df P w K mg base cls "_law_pick" 2 ["_law_draw_here", "_law_many"] fs_pick) (F : Fun K "_law_drill" "_law_drill" s_drill f fd) : FnOk P w K mg base (L2N.CX P w) 3 f fd ["_law_draw_here", "_law_words_here", "_law_many", "_law_steady"] (spOf cls fs_drill) := by
  have hV := nv_sc_drill
  refine def_ok F sc_drill (fun ds rt ex h => ?_) (fun cdv A outer s H E W R ds rt ex hr h => ?_)
  · obtain ⟨_, _, _, rfl, _⟩ := h
    rfl
  · obtain ⟨z, m, fr, rfl, z1, hz, m1, m6, k⟩ := h
    have hN := sc_drill.nd
    refine wss_cons (ws_own 4 hN rfl ?_)
    let I : Nat → Rho → Prop := fun i ρ' => ∃ (rows : List Row) (o5 o6 o7 o8 o9 o10 : Option Sv), rows.length = i ∧ (∀ r ∈ rows, rowOk (z.length + 1) m r) ∧ (0 < i → ∃ r, rows[0]? = some r ∧ r.1 = 0 ∧ r.2.2[0]? = some 0) ∧
      ρ' = [some (.val (.own 1)), some (.val (.str z)), some (.val (.int (m : Nat))), some (.val (.bl fr)), some (.lst (rows.map rowT)), o5, o6, o7, o8, o9, o10]
    refine wss_cons (ws_for rfl (wi_range1 (nb _ (by decide)) ?_))
    repeat walk_at "v"
    refine ⟨_, rfl, by omega, by omega, I, ⟨[], _, _, _, _, _, _, rfl, fun r h => (by cases h), fun h => absurd h (by omega), rfl⟩, fun i d ρ' hi hI => ?_, fun ρ' hI => ?_⟩
    · obtain ⟨hlt, rfl⟩ := rangeD_get hi
      have him : i < m := by simpa using hlt
      obtain ⟨rows, o5, o6, o7, o8, o9, o10, hl, hg, h0, rfl⟩ := hI
      rw [Int.zero_add]
      refine wg_name 5 hN rfl ?_
      refine wss_cons (ws_set 6 hN rfl (we_ix (we_lst ?_)))
      repeat walk_at "v"
      refine ⟨1, rfl, ?_⟩
      repeat walk_at "v"
      refine ⟨2, rfl, ?_⟩
      repeat walk_at "v"
      refine we_call d1 hr ?_
      repeat walk_at "v"
      refine ⟨10, rfl, by decide, fun a a0 a1 => ?_⟩
      obtain ⟨st, ist, st0, st1⟩ := pick_int (xs := [1, 2, 0, 1, 3, -1, 1, 2, -2, 1]) (n := 10) (lo := -3) (hi := 3) rfl (by decide) a0 (by omega)
      refine ⟨a, .int st, rfl, ist, ?_⟩
      refine wss_cons (ws_set 7 hN rfl (we_ix (we_lst ?_)))
      repeat walk_at "v"
      refine we_call d1 hr ?_
      repeat walk_at "v"
      refine ⟨7, rfl, by decide, fun b b0 b1 => ?_⟩
      obtain ⟨bo, ibo, bo0, bo1⟩ := pick_int (xs := [1, 2, 1, 3, 2, 4, 12]) (n := 7) (lo := 1) (hi := 12) rfl (by decide) b0 (by omega)
      refine ⟨b, .int bo, rfl, ibo, ?_⟩
      refine wss_cons (ws_set 8 hN rfl ?_)
      repeat walk_at "v"
      refine wss_cons (ws_ifQ (fun ρ' => ∃ si : Int, (0 ≤ si ∧ si < m) ∧ (i = 0 → si = 0) ∧ ρ' = [some (.val (.own 1)), some (.val (.str z)), some (.val (.int (m : Nat))), some (.val (.bl fr)), some (.lst (rows.map rowT)), some (.val (.int (i : Nat))), some (.val (.int st)), some (.val (.int bo)), some (.val (.int si)), o9, o10]) (wt_wp (wp_and (wt_not (wt_val ?_)))) fun ρ' eρ => ?_)
      · repeat walk_at "v"
        have no : ∃ si : Int, (0 ≤ si ∧ si < m) ∧ (i = 0 → si = 0) ∧ ([some (.val (.own 1)), some (.val (.str z)), some (.val (.int (m : Nat))), some (.val (.bl fr)), some (.lst (rows.map rowT)), some (.val (.int (i : Nat))), some (.val (.int st)), some (.val (.int bo)), some (.val (.int (i : Nat))), o9, o10] : Rho) = [some (.val (.own 1)), some (.val (.str z)), some (.val (.int (m : Nat))), some (.val (.bl fr)), some (.lst (rows.map rowT)), some (.val (.int (i : Nat))), some (.val (.int st)), some (.val (.int bo)), some (.val (.int si)), o9, o10] := ⟨i, ⟨by omega, by omega⟩, fun e => by omega, rfl⟩
        refine ⟨fr, rfl, fun _ => ?_, fun _ => ⟨fun e => Bool.noConfusion e, fun _ => wss_nil no⟩⟩
        refine wp_and (wt_gt ?_)
        repeat walk_at "v"
        refine ⟨_, _, rfl, rfl, _, rfl, fun e1 => ?_, fun _ => ⟨fun e => Bool.noConfusion e, fun _ => wss_nil no⟩⟩
        have e1 := of_decide_eq_true e1
        refine wp_and1 (wt_eq (we_call d1 hr ?_))
        repeat walk_at "v"
        refine ⟨3, rfl, by decide, fun q q0 q1 => ?_⟩
        repeat walk_at "v"
        refine eq_int ⟨_, rfl, fun _ => ?_, fun _ => wss_nil no⟩
        refine wss_one (ws_set 8 hN rfl (we_call d1 hr ?_))
        repeat walk_at "v"
        refine ⟨m, rfl, by omega, fun q q0 q1 => ?_⟩
        exact ⟨q, ⟨q0, by omega⟩, fun e => by omega, rfl⟩
      obtain ⟨si, sb, s00, rfl⟩ := eρ
      refine wss_cons (ws_own 9 hN rfl ?_)
      repeat walk_at "v"
      refine wss_cons (ws_for rfl (wi_str ?_))
      repeat walk_at "v"
      refine ⟨z, rfl, fun j ρ' => ∃ (ns : List Int) (o10 : Option Sv), ns.length = j ∧ (∀ n ∈ ns, 0 ≤ n ∧ n < m) ∧ ρ' = [some (.val (.own 1)), some (.val (.str z)), some (.val (.int (m : Nat))), some (.val (.bl fr)), some (.lst (rows.map rowT)), some (.val (.int (i : Nat))), some (.val (.int st)), some (.val (.int bo)), some (.val (.int si)), some (.lst ((si :: ns).map D.int)), o10], ⟨[], _, rfl, fun n h => absurd h List.not_mem_nil, rfl⟩, fun j d ρ' hj hJ => ?_, fun ρ' hJ => ?_⟩
      · obtain ⟨ns, o10, nl, nb', rfl⟩ := hJ
        have jl := (List.getElem?_eq_some_iff.mp hj).1
        rw [signs_len] at jl
        refine wg_name 10 hN rfl ?_
        refine wss_one (ws_app 9 rfl rfl (by rw [List.length_map, List.length_cons, nl, sizeLine_eq]; omega) (we_call d1 hr ?_))
        repeat walk_at "v"
        refine ⟨m, rfl, by omega, fun q q0 q1 => ?_⟩
        refine ⟨ns ++ [q], _, by rw [List.length_append, nl]; rfl, fun n hn => ?_, by rw [← List.cons_append, List.map_append]; rfl⟩
        rcases List.mem_append.mp hn with h | h
        · exact nb' n h
        · rw [List.mem_singleton.mp h]
          exact ⟨q0, by omega⟩
      · obtain ⟨ns, o10, nl, nb', rfl⟩ := hJ
        rw [signs_len] at nl
        refine wss_cons (ws_ifQ (fun ρ' => ∃ (st' : Int) (ns' : List Int), (-3 ≤ st' ∧ st' ≤ 3) ∧ ns'.length = z.length + 1 ∧ (∀ n ∈ ns', 0 ≤ n ∧ n < m) ∧ (i = 0 → st' = 0 ∧ ns'[0]? = some 0) ∧ ρ' = [some (.val (.own 1)), some (.val (.str z)), some (.val (.int (m : Nat))), some (.val (.bl fr)), some (.lst (rows.map rowT)), some (.val (.int (i : Nat))), some (.val (.int st')), some (.val (.int bo)), some (.val (.int si)), some (.lst (ns'.map D.int)), o10]) (wt_eq ?_) fun ρ' eρ => ?_)
        · repeat walk_at "v"
          have bnd : ∀ n ∈ si :: ns, 0 ≤ n ∧ n < m := fun n hn => by
            rcases List.mem_cons.mp hn with h | h
            · rw [h]; exact sb
            · exact nb' n h
          refine eq_int ⟨_, rfl, fun e => ?_, fun e => wss_nil ⟨st, si :: ns, ⟨st0, st1⟩, by rw [List.length_cons, nl], bnd, fun e0 => absurd (by rw [e0]; rfl) (of_decide_eq_false e), rfl⟩⟩
          have e := of_decide_eq_true e
          have i0 : i = 0 := by omega
          refine wss_cons (ws_set 6 hN rfl ?_)
          repeat walk_at "v"
          refine wss_one (ws_if (wt_gt ?_))
          repeat walk_at "v"
          refine ⟨_, _, rfl, rfl, _, rfl, fun e1 => ?_, fun e1 => wss_nil ⟨0, si :: ns, by decide, by rw [List.length_cons, nl], bnd, fun _ => ⟨rfl, by rw [s00 i0]; rfl⟩, rfl⟩⟩
          have e1 := of_decide_eq_true e1
          refine wss_one (ws_oset 9 rfl rfl (we_add ?_))
          repeat walk_at "v"
          refine we_call d1 hr ?_
          repeat walk_at "v"
          refine ⟨_, _, rfl, rfl, ?_⟩
          refine was_nil ?_
          refine ⟨_, rfl, by omega, fun q q0 q1 => ?_⟩
          refine ⟨_, _, rfl, rfl, ?_⟩
          repeat walk_at "v"
          refine ⟨1, 1, rfl, ixN_nat (i := 1) (by rw [List.length_map, List.length_cons, nl]; omega), ?_⟩
          refine ⟨0, (si :: ns).set 1 (1 + q), by decide, by rw [List.length_set, List.length_cons, nl], fun n hn => ?_, fun _ => ⟨rfl, by rw [List.getElem?_set_ne (by decide), s00 i0]; rfl⟩, by rw [List.map_set]; rfl⟩
          rcases List.mem_or_eq_of_mem_set hn with h | h
          · exact bnd n h
          · rw [h]
            omega
        obtain ⟨st', ns', sb', nl', nb2, z0, rfl⟩ := eρ
        refine wss_one (ws_app 4 rfl rfl (by rw [List.length_map, hl, sizeLine_eq]; omega) (we_tup ?_))
        walk_at "v"
        walk_at "v"
        refine we_otup nb (i := 9) rfl rfl ?_
        refine was_nil ⟨rows ++ [(st', bo, ns')], _, _, _, _, _, _, by rw [List.length_append, hl]; rfl, fun r hr' => ?_, fun _ => ?_, by rw [List.map_append]; rfl⟩
        · rcases List.mem_append.mp hr' with h | h
          · exact hg r h
          · rw [List.mem_singleton.mp h]
            exact ⟨sb', ⟨bo0, bo1⟩, nl', nb2⟩
        · by_cases hi0 : i = 0
          · subst hi0
            have : rows = [] := List.length_eq_zero_iff.mp hl
            subst this
            exact ⟨_, rfl, (z0 rfl).1, (z0 rfl).2⟩
          · obtain ⟨r, e1, e2⟩ := h0 (by omega)
            exact ⟨r, by rw [List.getElem?_append_left (by omega)]; exact e1, e2⟩
    · obtain ⟨rows, o5, o6, o7, o8, o9, o10, hl, hg, h0, rfl⟩ := hI
      rw [rangeD_length] at hl
      have hl : rows.length = m := by simpa using hl
      refine wss_pub 4 rfl (wss_one (ws_ret (we_tupleOf nb ?_)))
      repeat walk_at "v"
      refine ⟨rows.map rowT, .inl rfl, ?_⟩
      refine k rows ⟨hl, hg, h0 (by rw [rangeD_length]; omega)⟩
end
section
set_option maxHeartbeats 16000000
open PySem PySem.Spec PyProof.Rows L2 Vl
variable {cls : Nat → Addr} {P : Program} {w : World} {K : PySem.W.Frag} {mg : Str → Option Value} {base : Heap}
/-! ### _law_even_drill -/
abbrev s_even : Stmt := top 63
abbrev evenN : List Str := ["_law_draw_here", "_law_words_here", "_law_many", "_law_steady", "_law_body", "_law_rows", "_law_stride", "_law_other", "_law_nexts"]
theorem sc_even : FnScope evenN ["_law_draw_here", "_law_words_here", "_law_many", "_law_steady"] (defScope s_even) := ⟨rfl, rfl, rfl, by decide +kernel, rfl, by decide +kernel, by decide +kernel⟩
theorem nv_sc_even : NmOk evenN (defScope s_even) 9 := ⟨by decide +kernel⟩
def evR (b : Int) (r : Row) : Row := (if (if r.1 > 0 then r.1 else 0) < 1 then (if r.1 > 0 then r.1 else 0) else 1, b, r.2.2)
theorem ok_even {f : Addr} {fd : FuncData} (nb : NB mg) (d1 : Df P w K mg base cls "_law_pick" 2 ["_law_draw_here", "_law_many"] fs_pick) (d2 : Df P w K mg base cls "_law_drill" 3 ["_law_draw_here", "_law_words_here", "_law_many", "_law_steady"] fs_drill) (F : Fun K "_law_even_drill" "_law_even_drill" s_even f fd) : FnOk P w K mg base (L2N.CX P w) 4 f fd ["_law_draw_here", "_law_words_here", "_law_many", "_law_steady"] (spOf cls fs_drill) := by
  have hV := nv_sc_even
  refine def_ok F sc_even (fun ds rt ex h => ?_) (fun cdv A outer s H E W R ds rt ex hr h => ?_)
  · obtain ⟨_, _, _, rfl, _⟩ := h
    rfl
  · obtain ⟨z, m, fr, rfl, z1, hz, m1, m6, k⟩ := h
    have hN := sc_even.nd
    refine wss_cons (ws_set 4 hN rfl (we_add ?_))
    repeat walk_at "v"
    refine we_call d1 (hr.mono (by decide)) ?_
    repeat walk_at "v"
    refine ⟨3, rfl, by decide, fun b b0 b1 => ⟨_, _, rfl, rfl, ?_⟩⟩
    refine wss_cons (ws_own 5 hN rfl ?_)
    refine wss_cons (ws_for rfl (wi_tup (we_call d2 hr ?_)))
    repeat walk_at "v"
    refine ⟨z, m, fr, rfl, z1, hz, m1, m6, fun rows mr => ?_⟩
    obtain ⟨rl, rg, r0, e0, e1, e2⟩ := mr
    refine ⟨_, rfl, fun i ρ' => ∃ o6 o7 o8 : Option Sv, ρ' = [some (.val (.own 1)), some (.val (.str z)), some (.val (.int (m : Nat))), some (.val (.bl fr)), some (.val (.int (1 + b))), some (.lst (((rows.take i).map (evR (1 + b))).map rowT)), o6, o7, o8], ⟨_, _, _, rfl⟩, fun i d ρ' hi hI => ?_, fun ρ' hI => ?_⟩
    · obtain ⟨o6, o7, o8, rfl⟩ := hI
      rw [List.getElem?_map] at hi
      cases er : rows[i]? with
      | none => rw [er] at hi; cases hi
      | some r =>
      rw [er] at hi
      cases hi
      have il := (List.getElem?_eq_some_iff.mp er).1
      refine wg_tup rfl ⟨_, rfl, rfl, wg_name 6 hN rfl (wg_name 7 hN rfl (wg_name 8 hN rfl ?_))⟩
      refine wss_one (ws_app 5 rfl rfl (by rw [List.length_map, List.length_map, List.length_take, sizeLine_eq]; omega) (we_tup (we_min2 nb ?_)))
      repeat walk_at "v"
      refine we_max2 nb ?_
      repeat walk_at "v"
      refine ⟨_, _, rfl, rfl, _, _, rfl, rfl, ?_⟩
      repeat walk_at "v"
      refine ⟨some (.val (.int r.1)), some (.val (.int r.2.1)), some (.val (.tup (r.2.2.map D.int))), ?_⟩
      rw [List.take_succ, er, Option.toList_some, List.map_append, List.map_append]
      rfl
    · obtain ⟨o6, o7, o8, rfl⟩ := hI
      rw [List.length_map, List.take_length]
      refine wss_pub 5 rfl (wss_one (ws_ret (we_tupleOf nb ?_)))
      repeat walk_at "v"
      refine ⟨_, .inl rfl, k (rows.map (evR (1 + b))) ⟨by rw [List.length_map]; exact rl, fun r hr' => ?_, evR (1 + b) r0, by rw [List.getElem?_map, e0]; rfl, ?_, e2⟩⟩
      · obtain ⟨r', hr2, rfl⟩ := List.mem_map.mp hr'
        obtain ⟨h1, h2, h3, h4⟩ := rg r' hr2
        refine ⟨?_, ⟨by show 1 ≤ 1 + b; omega, by show 1 + b ≤ 12; omega⟩, h3, h4⟩
        unfold evR
        dsimp only
        split <;> split <;> omega
      · unfold evR
        dsimp only
        rw [e1]
        rfl
/-! ### _law_text -/
abbrev s_ltext : Stmt := top 68
abbrev ltextN : List Str := ["_law_draw_here", "_law_signs", "_law_most", "_law_turn"]
theorem sc_ltext : FnScope ltextN ["_law_draw_here", "_law_signs", "_law_most"] (defScope s_ltext) := ⟨rfl, rfl, rfl, by decide +kernel, rfl, by decide +kernel, by decide +kernel⟩
theorem nv_sc_ltext : NmOk ltextN (defScope s_ltext) 3 := ⟨by decide +kernel⟩
def fs_ltext : FS := fun ds rt _ => ∃ (sg : Str) (m : Nat), ds = [.own 1, .str sg, .int (m : Nat)] ∧ 1 ≤ sg.length ∧ sg.length ≤ 100 ∧ m ≤ 100 ∧ ∀ t : Str, t.length ≤ m → (∀ n ∈ t.cps.toList, n ∈ sg.cps.toList) → rt (.str t)
theorem ok_ltext {f : Addr} {fd : FuncData} (nb : NB mg) (d1 : Df P w K mg base cls "_law_pick" 2 ["_law_draw_here", "_law_many"] fs_pick) (F : Fun K "_law_text" "_law_text" s_ltext f fd) : FnOk P w K mg base (L2N.CX P w) 3 f fd ["_law_draw_here", "_law_signs", "_law_most"] (spOf cls fs_ltext) := by
  have hV := nv_sc_ltext
  refine def_ok F sc_ltext (fun ds rt ex h => ?_) (fun cdv A outer s H E W R ds rt ex hr h => ?_)
  · obtain ⟨_, _, rfl, _⟩ := h
    rfl
  · obtain ⟨sg, m, rfl, n1, n100, hm, k⟩ := h
    have hN := sc_ltext.nd
    refine wss_one (ws_ret (we_join ?_))
    repeat walk_at "v"
    refine ⟨_, rfl, ?_⟩
    refine we_lc 3 hN (LC.map (wi_range1 (nb _ (by decide)) (we_call d1 hr ?_)))
    repeat walk_at "v"
    refine we_add ?_
    repeat walk_at "v"
    refine ⟨_, _, rfl, rfl, ?_⟩
    refine was_nil ⟨_, rfl, by omega, fun b b0 b1 => ?_⟩
    refine ⟨_, rfl, by omega, by omega, ?_, fun i x y => ∃ n, y = .str (one n) ∧ n ∈ sg.cps.toList, fun i x hi => ⟨_, rfl, fun s0 H0 C cl fp => ?_⟩, fun acc a1 a2 => ?_⟩
    · rw [rangeD_length]; omega
    · refine we_ix ?_
      repeat walk_at "v"
      refine we_call d1 hr ?_
      repeat walk_at "v"
      refine ⟨sg.length, len_str (by omega), _, rfl, by omega, fun r r0 r1 => ?_⟩
      obtain ⟨n, hn, _, it⟩ := pick_sgn (z := sg) (by omega) r0 (by omega)
      exact ⟨r, _, rfl, it, n, rfl, hn⟩
    · rw [rangeD_length] at a1
      obtain ⟨ns, rfl, hns⟩ := strs_acc (P := fun n => n ∈ sg.cps.toList) (acc := acc) fun i y hy => by
        have hi' : i < acc.length := (List.getElem?_eq_some_iff.mp hy).1
        exact a2 i (.int (0 + (i : Nat))) y (by unfold rangeD; rw [List.getElem?_map, List.getElem?_range (by omega)]; rfl) hy
      rw [List.length_map, List.length_map] at a1
      refine ⟨ns.map one, rfl, by rw [ones_sum, List.length_map]; have : ("" : Str).length = 0 := rfl; rw [this]; omega, ?_⟩
      rw [join_one]
      have lb : (⟨ns.toArray⟩ : Str).length = ns.length := by show ns.toArray.size = _; rw [List.size_toArray]
      exact k _ (by rw [lb]; omega) fun n hn => hns n hn
/-! ### _law_great -/
abbrev s_great : Stmt := top 74
abbrev greatN : List Str := ["_law_draw_here", "_law_value", "_law_turn"]
theorem sc_great : FnScope greatN ["_law_draw_here"] (defScope s_great) := ⟨rfl, rfl, rfl, by decide +kernel, rfl, by decide +kernel, by decide +kernel⟩
theorem nv_sc_great : NmOk greatN (defScope s_great) 3 := ⟨by decide +kernel⟩
def fs_great : FS := fun ds rt _ => ds = [.own 1] ∧ ∀ n : Nat, 1 ≤ n → n ≤ 10 ^ 39 → rt (.int (n : Nat))
theorem ok_great {f : Addr} {fd : FuncData} (nb : NB mg) (d1 : Df P w K mg base cls "_law_pick" 2 ["_law_draw_here", "_law_many"] fs_pick) (F : Fun K "_law_great" "_law_great" s_great f fd) : FnOk P w K mg base (L2N.CX P w) 3 f fd ["_law_draw_here"] (spOf cls fs_great) := by
  have hV := nv_sc_great
  refine def_ok F sc_great (fun ds rt ex h => ?_) (fun cdv A outer s H E W R ds rt ex hr h => ?_)
  · obtain ⟨rfl, _⟩ := h
    rfl
  · obtain ⟨rfl, k⟩ := h
    have hN := sc_great.nd
    refine wss_cons (ws_set 1 hN rfl ?_)
    repeat walk_at "v"
    refine wss_cons (ws_for rfl (wi_range1 (nb _ (by decide)) (we_ix (we_lst ?_))))
    repeat walk_at "v"
    refine we_call d1 hr ?_
    repeat walk_at "v"
    refine ⟨5, rfl, by decide, fun a a0 a1 => ?_⟩
    obtain ⟨st, ist, st0, st1⟩ := pick_int (xs := [1, 2, 5, 9, 13]) (n := 5) (lo := 1) (hi := 13) rfl (by decide) a0 (by omega)
    refine ⟨a, .int st, rfl, ist, st, rfl, by omega, by omega, fun i ρ' => ∃ (n : Nat) (o2 : Option Sv), n < 1000 ^ i ∧ ρ' = [some (.val (.own 1)), some (.val (.int (n : Nat))), o2], ⟨0, _, by decide, rfl⟩, fun i d ρ' hi hI => ?_, fun ρ' hI => ?_⟩
    · obtain ⟨il, rfl⟩ := rangeD_get hi
      obtain ⟨n, o2, hn, rfl⟩ := hI
      have i13 : i < 13 := by omega
      have big : 1000 ^ i ≤ 1000 ^ 12 := Nat.pow_le_pow_right (by decide) (by omega)
      refine wg_name 2 hN rfl ?_
      refine wss_one (ws_set 1 hN rfl (we_add ?_))
      repeat walk_at "v"
      refine ⟨_, _, rfl, rfl, mul_r (by decide) (by decide), ?_⟩
      refine we_call d1 hr ?_
      repeat walk_at "v"
      refine ⟨1000, rfl, by decide, fun q q0 q1 => ⟨_, _, rfl, rfl, ?_⟩⟩
      obtain ⟨p, rfl⟩ : ∃ p : Nat, q = (p : Int) := ⟨q.toNat, by omega⟩
      refine ⟨n * 1000 + p, some (.val (.int (0 + (i : Nat)))), ?_, by rw [Int.natCast_add, Int.natCast_mul]; rfl⟩
      have := Nat.mul_le_mul_right 1000 (show n + 1 ≤ 1000 ^ i from hn)
      rw [Nat.pow_succ]
      omega
    · obtain ⟨n, o2, hn, rfl⟩ := hI
      rw [rangeD_length] at hn
      refine wss_one (ws_ret (we_add ?_))
      repeat walk_at "v"
      refine ⟨_, _, rfl, rfl, ?_⟩
      have big : 1000 ^ st.toNat ≤ 1000 ^ 13 := Nat.pow_le_pow_right (by decide) (by omega)
      refine k (n + 1) (by omega) ?_
      have e : 1000 ^ 13 = 10 ^ 39 := by decide +kernel
      omega
end
section
set_option maxHeartbeats 16000000
open PySem PySem.Spec PyProof.Rows L2 Vl
variable {cls : Nat → Addr} {P : Program} {w : World} {K : PySem.W.Frag} {mg : Str → Option Value} {base : Heap}
/-! ### _law_strings -/
abbrev s_strings : Stmt := top 73
abbrev stringsN : List Str := ["_law_draw_here", "_law_names_here", "_law_begin", "_law_again", "_law_close"]
theorem sc_strings : FnScope stringsN ["_law_draw_here", "_law_names_here"] (defScope s_strings) := ⟨rfl, rfl, rfl, by decide +kernel, rfl, by decide +kernel, by decide +kernel⟩
theorem nv_sc_strings : NmOk stringsN (defScope s_strings) 5 := ⟨by decide +kernel⟩
/-- a head, a part, a tail -/
structure vOk (nm h p t : Str) : Prop where
  hl : h.length ≤ 20
  p1 : 1 ≤ p.length
  pl : p.length ≤ 20
  tl : t.length ≤ 20
  hm : ∀ n ∈ h.cps.toList, n ∈ nm.cps.toList
  pm : ∀ n ∈ p.cps.toList, n ∈ nm.cps.toList
  tm : ∀ n ∈ t.cps.toList, n ∈ nm.cps.toList
abbrev vsT (h p t : Str) : D := .tup [.str h, .str p, .str t]
def fs_strings : FS := fun ds rt _ => ∃ nm : Str, ds = [.own 1, .str nm] ∧ 1 ≤ nm.length ∧ nm.length ≤ 100 ∧ ∀ h p t, vOk nm h p t → rt (vsT h p t)
theorem ok_strings {f : Addr} {fd : FuncData} (nb : NB mg) (d1 : Df P w K mg base cls "_law_pick" 2 ["_law_draw_here", "_law_many"] fs_pick) (d2 : Df P w K mg base cls "_law_text" 3 ["_law_draw_here", "_law_signs", "_law_most"] fs_ltext) (F : Fun K "_law_strings" "_law_strings" s_strings f fd) : FnOk P w K mg base (L2N.CX P w) 4 f fd ["_law_draw_here", "_law_names_here"] (spOf cls fs_strings) := by
  have hV := nv_sc_strings
  refine def_ok F sc_strings (fun ds rt ex h => ?_) (fun cdv A outer s H E W R ds rt ex hr h => ?_)
  · obtain ⟨_, rfl, _⟩ := h
    rfl
  · obtain ⟨nm, rfl, n1, n100, k⟩ := h
    have hN := sc_strings.nd
    have hr2 : Room 2 (A.deeper (envOfC "_law_strings" (defScope s_strings) s.heap.objs.size f cdv)) := hr.mono (by decide)
    refine wss_cons (ws_set 2 hN rfl (we_call d2 hr ?_))
    repeat walk_at "v"
    refine we_ix (we_lst ?_)
    repeat walk_at "v"
    refine we_call d1 hr2 ?_
    repeat walk_at "v"
    refine ⟨4, rfl, by decide, fun a a0 a1 => ?_⟩
    obtain ⟨u, iu, u0, u1⟩ := pick_int (xs := [2, 0, 4, 20]) (n := 4) (lo := 0) (hi := 20) rfl (by decide) a0 (by omega)
    obtain ⟨un, rfl⟩ : ∃ m : Nat, u = (m : Int) := ⟨u.toNat, by omega⟩
    refine ⟨a, _, rfl, iu, ?_⟩
    refine was_nil ⟨nm, un, rfl, n1, n100, by omega, fun h hl hm => ?_⟩
    refine wss_cons (ws_set 3 hN rfl (we_addS (we_ix ?_)))
    repeat walk_at "v"
    refine we_call d1 hr2 ?_
    repeat walk_at "v"
    refine ⟨nm.length, len_str (by omega), _, rfl, by omega, fun r r0 r1 => ?_⟩
    obtain ⟨n, hn, _, it⟩ := pick_sgn (z := nm) (by omega) r0 (by omega)
    refine ⟨r, _, rfl, it, ?_⟩
    refine we_call d2 hr ?_
    repeat walk_at "v"
    refine we_ix (we_lst ?_)
    repeat walk_at "v"
    refine we_call d1 hr2 ?_
    repeat walk_at "v"
    refine ⟨4, rfl, by decide, fun b b0 b1 => ?_⟩
    obtain ⟨v, iv, v0, v1⟩ := pick_int (xs := [1, 0, 3, 19]) (n := 4) (lo := 0) (hi := 19) rfl (by decide) b0 (by omega)
    obtain ⟨vn, rfl⟩ : ∃ m : Nat, v = (m : Int) := ⟨v.toNat, by omega⟩
    refine ⟨b, _, rfl, iv, ?_⟩
    refine was_nil ⟨nm, vn, rfl, n1, n100, by omega, fun p pl pm => ?_⟩
    have o1 : (one n).length = 1 := rfl
    refine ⟨_, _, rfl, rfl, by rw [o1, sizeLine_eq]; omega, ?_⟩
    have ap : (one n ++ p).length = 1 + p.length := by rw [app_len, o1]
    have apm : ∀ q ∈ (one n ++ p).cps.toList, q ∈ nm.cps.toList := fun q hq => by
      rw [app_list, List.mem_append] at hq
      rcases hq with h | h
      · have : q = n := by simpa [one] using h
        rw [this]
        exact hn
      · exact pm q h
    generalize one n ++ p = pp at ap apm
    refine wss_cons (ws_set 4 hN rfl (we_call d2 hr ?_))
    repeat walk_at "v"
    refine we_ix (we_lst ?_)
    repeat walk_at "v"
    refine we_call d1 hr2 ?_
    repeat walk_at "v"
    refine ⟨4, rfl, by decide, fun c c0 c1 => ?_⟩
    obtain ⟨x, ix, x0, x1⟩ := pick_int (xs := [2, 0, 4, 20]) (n := 4) (lo := 0) (hi := 20) rfl (by decide) c0 (by omega)
    obtain ⟨xn, rfl⟩ : ∃ m : Nat, x = (m : Int) := ⟨x.toNat, by omega⟩
    refine ⟨c, _, rfl, ix, ?_⟩
    refine was_nil ⟨nm, xn, rfl, n1, n100, by omega, fun t tl tm => ?_⟩
    have fin : ∀ t : Str, t.length ≤ 20 → (∀ n ∈ t.cps.toList, n ∈ nm.cps.toList) → rt (vsT h pp t) := fun t h1 h2 => k h pp t ⟨by omega, by omega, by omega, h1, hm, apm, h2⟩
    refine wss_cons (ws_if (wt_eq (we_call d1 hr2 ?_)))
    repeat walk_at "v"
    refine ⟨12, rfl, by decide, fun e e0 e1 => ?_⟩
    repeat walk_at "v"
    refine eq_int ⟨_, rfl, fun _ => ?_, fun _ => wss_nil ?_⟩
    · refine wss_one (ws_set 4 hN rfl (we_mulS (we_ix ?_)))
      repeat walk_at "v"
      refine we_call d1 hr2 ?_
      repeat walk_at "v"
      refine ⟨nm.length, len_str (by omega), _, rfl, by omega, fun r' r0' r1' => ?_⟩
      obtain ⟨n', hn', _, it'⟩ := pick_sgn (z := nm) (by omega) r0' (by omega)
      refine ⟨r', _, rfl, it', ?_⟩
      repeat walk_at "v"
      refine ⟨_, _, rfl, rfl, mulOk_of (k := 20) (by show 1 ≤ _; omega) (by decide), ?_⟩
      have m20 : (Txt.mul (one n') 20).length = 20 := mul_len (one n') 20
      refine wss_one (ws_ret (we_tup ?_))
      repeat walk_at "v"
      refine fin _ (by rw [m20]; omega) fun q hq => ?_
      have : q = n' := by simpa [one] using mul_mem hq
      rw [this]
      exact hn'
    · refine wss_one (ws_ret (we_tup ?_))
      repeat walk_at "v"
      exact fin t (by omega) tm
/-! ### _law_longer -/
abbrev s_longer : Stmt := top 78
theorem sc_longer : FnScope ["_law_word", "_law_name"] ["_law_word", "_law_name"] (defScope s_longer) := ⟨rfl, rfl, rfl, by decide +kernel, rfl, by decide +kernel, by decide +kernel⟩
theorem nv_sc_longer : NmOk ["_law_word", "_law_name"] (defScope s_longer) 2 := ⟨by decide +kernel⟩
/-- another word -/
def longerZ (h a : Str) : Str := if h.length < 20 then h ++ a else cutS h (some (1 : Int)) none
def fs_longer : FS := fun ds rt _ => ∃ h a : Str, ds = [.str h, .str a] ∧ h.length ≤ 1000 ∧ a.length ≤ 1000 ∧ rt (.str (longerZ h a))
theorem ok_longer {f : Addr} {fd : FuncData} (nb : NB mg) (F : Fun K "_law_longer" "_law_longer" s_longer f fd) : FnOk P w K mg base (L2N.CX P w) 1 f fd ["_law_word", "_law_name"] (spOf cls fs_longer) := by
  have hV := nv_sc_longer
  refine def_ok F sc_longer (fun ds rt ex h => ?_) (fun cdv A outer s H E W R ds rt ex hr h => ?_)
  · obtain ⟨_, _, rfl, _⟩ := h
    rfl
  · obtain ⟨h, a, rfl, hl, al, k⟩ := h
    unfold longerZ at k
    refine wss_cons (ws_if (wt_lt ?_))
    repeat walk_at "v"
    refine ⟨h.length, len_str (by omega), ?_⟩
    repeat walk_at "v"
    refine ⟨_, _, rfl, rfl, _, rfl, fun e => ?_, fun e => wss_nil ?_⟩
    · rw [if_pos (by have := of_decide_eq_true e; omega)] at k
      refine wss_one (ws_ret (we_addS ?_))
      repeat walk_at "v"
      exact ⟨_, _, rfl, rfl, by rw [sizeLine_eq]; omega, k⟩
    · rw [if_neg (by have := of_decide_eq_false e; omega)] at k
      refine wss_one (ws_ret (we_sliceS ?_))
      repeat walk_at "v"
      refine ⟨h, rfl, by rw [sizeLine_eq]; omega, ?_⟩
      show Vl.WE _ _ _ _ _
      repeat walk_at "v"
      exact ⟨1, rfl, k⟩
end
section
set_option maxHeartbeats 16000000
open PySem PySem.Spec PyProof.Rows L2 Vl
variable {cls : Nat → Addr} {P : Program} {w : World} {K : PySem.W.Frag} {mg : Str → Option Value} {base : Heap}
/-! ### _law_make -/
abbrev s_lmake : Stmt := top 64
abbrev lmakeN : List Str := ["_law_draw_here", "_law_many_words", "_law_many_kinds", "_law_steady", "_law_words_here", "_law_names_here", "_law_kinds", "_law_name", "_law_lag", "_law_many", "_law_rows", "_law_space", "_law_seats", "_law_ahead", "_law_behind"]
theorem sc_lmake : FnScope lmakeN ["_law_draw_here", "_law_many_words", "_law_many_kinds", "_law_steady"] (defScope s_lmake) := ⟨rfl, rfl, rfl, by decide +kernel, rfl, by decide +kernel, by decide +kernel⟩
theorem nv_sc_lmake : NmOk lmakeN (defScope s_lmake) 15 := ⟨by decide +kernel⟩
def fs_lmake : FS := fun ds rt _ => ∃ (mw mk : Nat) (fr : Bool), ds = [.own 1, .int (mw : Nat), .int (mk : Nat), .bl fr] ∧ (1 ≤ mw ∧ mw ≤ 4) ∧ (1 ≤ mk ∧ mk ≤ 4) ∧ ∀ z ks sp ss, rawG z ks sp ss → ss.length ≤ 16 → rt (rawD z ks sp ss)
theorem ok_lmake {f : Addr} {fd : FuncData} (nb : NB mg) (d1 : Df P w K mg base cls "_law_pick" 2 ["_law_draw_here", "_law_many"] fs_pick) (dW : Df P w K mg base cls "_law_words" 3 ["_law_draw_here", "_law_many"] fs_words) (dN : Df P w K mg base cls "_law_names" 3 ["_law_draw_here", "_law_many"] fs_names)
    (dD : Df P w K mg base cls "_law_drill" 3 ["_law_draw_here", "_law_words_here", "_law_many", "_law_steady"] fs_drill) (dE : Df P w K mg base cls "_law_even_drill" 4 ["_law_draw_here", "_law_words_here", "_law_many", "_law_steady"] fs_drill) (F : Fun K "_law_make" "_law_make" s_lmake f fd) : FnOk P w K mg base (L2N.CX P w) 5 f fd ["_law_draw_here", "_law_many_words", "_law_many_kinds", "_law_steady"] (spOf cls fs_lmake) := by
  have hV := nv_sc_lmake
  refine def_ok F sc_lmake (fun ds rt ex h => ?_) (fun cdv A outer s H E W R ds rt ex hr h => ?_)
  · obtain ⟨_, _, _, rfl, _⟩ := h
    rfl
  · obtain ⟨mw, mk, fr, rfl, hmw, hmk, k⟩ := h
    have hN := sc_lmake.nd
    have hr2 : Room 2 (A.deeper (envOfC "_law_make" (defScope s_lmake) s.heap.objs.size f cdv)) := hr.mono (by decide)
    have hr3 : Room 3 (A.deeper (envOfC "_law_make" (defScope s_lmake) s.heap.objs.size f cdv)) := hr.mono (by decide)
    refine wss_cons (ws_set 4 hN rfl (we_call dW hr3 ?_))
    repeat walk_at "v"
    refine ⟨mw, rfl, by omega, by omega, fun z gz => ?_⟩
    have zl : z.length = mw := gz.1
    refine wss_cons (ws_set 5 hN rfl (we_call dN hr3 ?_))
    repeat walk_at "v"
    refine ⟨mk, rfl, by omega, by omega, fun y gy => ?_⟩
    refine wss_cons (ws_own 6 hN rfl ?_)
    refine wss_cons (ws_for rfl (wi_str ?_))
    repeat walk_at "v"
    refine ⟨y, rfl, fun i ρ' => ∃ (ks : List Kd) (o7 o8 o9 o10 : Option Sv), ks.map (·.1) = (y.cps.toList.take i).map one ∧ (∀ k ∈ ks, okKd (z.length + 1) k) ∧ ρ' = [some (.val (.own 1)), some (.val (.int (mw : Nat))), some (.val (.int (mk : Nat))), some (.val (.bl fr)), some (.val (.str z)), some (.val (.str y)), some (.lst (ks.map kindT)), o7, o8, o9, o10, none, none, none, none], ⟨[], none, none, none, none, rfl, fun k h => (by cases h), rfl⟩, fun i d ρ' hi hI => ?_, fun ρ' hI => ?_⟩
    · obtain ⟨n, hn, rfl⟩ := signs_get hi
      obtain ⟨ks, o7, o8, o9, o10, e1, e2, rfl⟩ := hI
      have hl : ks.length = i := by
        have := congrArg List.length e1
        rw [List.length_map, List.length_map, List.length_take] at this
        have := (List.getElem?_eq_some_iff.mp hn).1
        omega
      have il : i < 4 := by have := (List.getElem?_eq_some_iff.mp hn).1; rw [← Vl.len_list, gy.1] at this; omega
      refine wg_name 7 hN rfl ?_
      refine wss_cons (ws_set 8 hN rfl (we_ix (we_lst ?_)))
      repeat walk_at "v"
      refine we_call d1 hr2 ?_
      repeat walk_at "v"
      refine ⟨8, rfl, by decide, fun q q0 q1 => ?_⟩
      obtain ⟨lag, ila, la0, la1⟩ := pick_int (xs := [1, 1, 2, 1, 1, 2, 3, 1]) (n := 8) (lo := 1) (hi := 3) rfl (by decide) q0 (by omega)
      refine ⟨q, _, rfl, ila, ?_⟩
      refine wss_cons (ws_set 9 hN rfl (we_ix (we_lst ?_)))
      repeat walk_at "v"
      refine we_call d1 hr2 ?_
      repeat walk_at "v"
      refine ⟨6, rfl, by decide, fun u u0 u1 => ?_⟩
      obtain ⟨many, ima, ma0, ma1⟩ := pick_int (xs := [2, 2, 3, 2, 3, 1]) (n := 6) (lo := 1) (hi := 3) rfl (by decide) u0 (by omega)
      obtain ⟨mn, rfl⟩ : ∃ m : Nat, many = (m : Int) := ⟨many.toNat, by omega⟩
      refine ⟨u, _, rfl, ima, ?_⟩
      refine wss_cons (ws_ifQ (fun ρ' => ∃ rows : List Row, okRows (z.length + 1) rows ∧ ρ' = [some (.val (.own 1)), some (.val (.int (mw : Nat))), some (.val (.int (mk : Nat))), some (.val (.bl fr)), some (.val (.str z)), some (.val (.str y)), some (.lst (ks.map kindT)), some (.val (.str (one n))), some (.val (.int lag)), some (.val (.int (mn : Nat))), some (.val (rowsT rows)), none, none, none, none]) (wt_wp (wp_and (wt_olist (i := 6) rfl rfl ?_))) fun ρ' eρ => ?_)
      · have drawn : WSs (cyOf P w K mg base lmakeN "_law_make" (defScope s_lmake) f cdv A outer s H E W R) (match (forBody ((defBody s_lmake).getD 3 (.Pass ⟨0, 0, 0, 0⟩))).getD 2 (.Pass ⟨0, 0, 0, 0⟩) with | .If _ _ b _ => b | _ => []) [some (.val (.own 1)), some (.val (.int (mw : Nat))), some (.val (.int (mk : Nat))), some (.val (.bl fr)), some (.val (.str z)), some (.val (.str y)), some (.lst (ks.map kindT)), some (.val (.str (one n))), some (.val (.int lag)), some (.val (.int (mn : Nat))), o10, none, none, none, none]
            { nx := fun ρ' => ∃ rows : List Row, okRows (z.length + 1) rows ∧ ρ' = [some (.val (.own 1)), some (.val (.int (mw : Nat))), some (.val (.int (mk : Nat))), some (.val (.bl fr)), some (.val (.str z)), some (.val (.str y)), some (.lst (ks.map kindT)), some (.val (.str (one n))), some (.val (.int lag)), some (.val (.int (mn : Nat))), some (.val (rowsT rows)), none, none, none, none], rt := fun _ => rt, ex := fun _ => ex } := by
          refine wss_one (ws_if (wt_eq (we_call d1 hr2 ?_)))
          repeat walk_at "v"
          refine ⟨3, rfl, by decide, fun x x0 x1 => ?_⟩
          repeat walk_at "v"
          refine eq_int ⟨_, rfl, fun _ => ?_, fun _ => ?_⟩
          · refine wss_one (ws_set 10 hN rfl (we_call dD hr3 ?_))
            repeat walk_at "v"
            exact ⟨z, mn, fr, rfl, by omega, by omega, by omega, by omega, fun rows mr => ⟨rows, made_ok (by omega) mr (by omega) (by omega), rfl⟩⟩
          · refine wss_one (ws_set 10 hN rfl (we_call dE hr ?_))
            repeat walk_at "v"
            exact ⟨z, mn, fr, rfl, by omega, by omega, by omega, by omega, fun rows mr => ⟨rows, made_ok (by omega) mr (by omega) (by omega), rfl⟩⟩
        refine ⟨fun e => ?_, fun e => ⟨fun e => Bool.noConfusion e, fun _ => ?_⟩⟩
        · refine wp_and1 (wt_eq (we_call d1 hr2 ?_))
          repeat walk_at "v"
          refine ⟨2, rfl, by decide, fun x x0 x1 => ?_⟩
          repeat walk_at "v"
          refine eq_int ⟨_, rfl, fun _ => ?_, fun _ => ?_⟩
          · refine wss_one (ws_set 10 hN rfl (we_ix (we_oix (i := 6) rfl rfl (we_neg ?_))))
            repeat walk_at "v"
            obtain ⟨kl, hkl⟩ : ∃ kl, ks.getLast? = some kl := by
              cases hk : ks.getLast? with
              | some kl => exact ⟨kl, rfl⟩
              | none => rw [List.getLast?_eq_none_iff.mp hk] at e; cases e
            refine ⟨1, rfl, -1, kindT kl, rfl, atI_last (by rw [List.getLast?_map, hkl]; rfl), ?_⟩
            repeat walk_at "v"
            exact ⟨_, _, rfl, item_tup (i := 2) rfl, kl.2.2, (e2 kl (List.mem_of_getLast? hkl)).2.2.2, rfl⟩
          · exact drawn.mono (fun _ h => h) (fun _ _ h => h) (fun _ h => h.elim) (fun _ h => h.elim) fun _ _ h => h
        · exact drawn.mono (fun _ h => h) (fun _ _ h => h) (fun _ h => h.elim) (fun _ h => h.elim) fun _ _ h => h
      obtain ⟨rows, okr, rfl⟩ := eρ
      refine wss_one (ws_app 6 rfl rfl (by rw [List.length_map, sizeLine_eq]; omega) (we_tup ?_))
      repeat walk_at "v"
      refine ⟨ks ++ [(one n, lag, rows)], _, _, _, _, ?_, fun q hq => ?_, by rw [List.map_append]; rfl⟩
      · rw [List.map_append, e1, take_get hn, List.map_append]
        rfl
      · rcases List.mem_append.mp hq with h | h
        · exact e2 q h
        · rw [List.mem_singleton] at h
          subst h
          exact ⟨⟨n, rfl, gy.2.2 n (List.mem_of_getElem? hn)⟩, la0, la1, okr⟩
    · obtain ⟨ks, o7, o8, o9, o10, e1, e2, rfl⟩ := hI
      rw [signs_len, Vl.len_list, List.take_length] at e1
      have hl : ks.length = y.length := by
        have := congrArg List.length e1
        rw [List.length_map, List.length_map, ← Vl.len_list] at this
        exact this
      have okk : okKs (z.length + 1) ks := ⟨⟨by rw [hl, gy.1]; omega, by rw [hl, gy.1]; omega, y.cps.toList, gy.2.1, gy.2.2, e1⟩, e2⟩
      have ey : ks.map (·.1) = y.cps.toList.map one := e1
      obtain ⟨m, yl, m3⟩ : ∃ m, y.cps.toList.length = m ∧ m ≤ 4 := ⟨_, rfl, by rw [← Vl.len_list, gy.1]; omega⟩
      have mem : ∀ nm, allN ks nm → ∀ n, n ∈ y.cps.toList ↔ n ∈ nm.cps.toList := fun nm an n => by
        rw [an.2.2.1 n, ey]
        constructor
        · exact fun h => List.mem_map.mpr ⟨n, h, rfl⟩
        · intro h
          obtain ⟨x, hx, e⟩ := List.mem_map.mp h
          rw [← one_inj e]
          exact hx
      refine wss_cons (ws_set 11 hN rfl (we_ix (we_lst ?_)))
      repeat walk_at "v"
      refine we_call d1 hr2 ?_
      repeat walk_at "v"
      refine ⟨8, rfl, by decide, fun q q0 q1 => ?_⟩
      obtain ⟨sp, isp, sp0, sp1⟩ := pick_int (xs := [1, 2, 3, 1, 4, 0, 2, 6]) (n := 8) (lo := 0) (hi := 6) rfl (by decide) q0 (by omega)
      refine ⟨q, _, rfl, isp, ?_⟩
      refine wss_cons (ws_own 12 hN rfl ?_)
      let J : Nat → Nat → List Se → Prop := fun i j ss => (ss.map seatKey).Nodup ∧ ss.length ≤ i * m + j ∧ ∀ s ∈ ss, ∃ a b, s.1 = one a ∧ s.2.1 = one b ∧ b ∈ y.cps.toList ∧ (a ∈ y.cps.toList.take i ∨ (y.cps.toList[i]? = some a ∧ b ∈ y.cps.toList.take j)) ∧ 0 ≤ s.2.2 ∧ s.2.2 ≤ 40
      refine wss_cons (ws_for rfl (wi_str ?_))
      repeat walk_at "v"
      refine ⟨y, rfl, fun i ρ' => ∃ (ss : List Se) (o13 o14 : Option Sv), i ≤ m ∧ J i 0 ss ∧ ρ' = [some (.val (.own 1)), some (.val (.int (mw : Nat))), some (.val (.int (mk : Nat))), some (.val (.bl fr)), some (.val (.str z)), some (.val (.str y)), some (.lst (ks.map kindT)), o7, o8, o9, o10, some (.val (.int sp)), some (.lst (ss.map seatT)), o13, o14], ⟨[], none, none, by omega, ⟨List.nodup_nil, by simp, fun p h => by cases h⟩, rfl⟩, fun i d ρ' hi hI => ?_, fun ρ' hI => ?_⟩
      · obtain ⟨a, ha, rfl⟩ := signs_get hi
        obtain ⟨ss, o13, o14, im, hJ, rfl⟩ := hI
        have il : i < m := by have := (List.getElem?_eq_some_iff.mp ha).1; omega
        refine wg_name 13 hN rfl ?_
        refine wss_one (ws_for rfl (wi_str ?_))
        repeat walk_at "v"
        refine ⟨y, rfl, fun j ρ' => ∃ (ss : List Se) (o14 : Option Sv), j ≤ m ∧ J i j ss ∧ ρ' = [some (.val (.own 1)), some (.val (.int (mw : Nat))), some (.val (.int (mk : Nat))), some (.val (.bl fr)), some (.val (.str z)), some (.val (.str y)), some (.lst (ks.map kindT)), o7, o8, o9, o10, some (.val (.int sp)), some (.lst (ss.map seatT)), some (.val (.str (one a))), o14], ⟨ss, o14, by omega, hJ, rfl⟩, fun j d ρ' hj hI => ?_, fun ρ' hI => ?_⟩
        · obtain ⟨b', hb, rfl⟩ := signs_get hj
          obtain ⟨ss, o14, jm, ⟨j1, j2, j3⟩, rfl⟩ := hI
          have jl : j < m := by have := (List.getElem?_eq_some_iff.mp hb).1; omega
          refine wg_name 14 hN rfl ?_
          have small : ss.length < 100 := by
            have : i * m ≤ 4 * 4 := Nat.mul_le_mul (by omega) m3
            omega
          have grow : J i (j + 1) ss := ⟨j1, by omega, fun s hs => by
            obtain ⟨p, q, h1, h2, h3, h4, h5⟩ := j3 s hs
            exact ⟨p, q, h1, h2, h3, h4.imp id (fun ⟨h6, h7⟩ => ⟨h6, take_mem hb h7⟩), h5⟩⟩
          refine wss_one (ws_if (wt_eq (we_call d1 hr2 ?_)))
          repeat walk_at "v"
          refine ⟨4, rfl, by decide, fun t t0 t1 => ?_⟩
          repeat walk_at "v"
          refine eq_int ⟨_, rfl, fun _ => ?_, fun _ => wss_nil ⟨ss, _, by omega, grow, rfl⟩⟩
          refine wss_one (ws_app 12 rfl rfl (by rw [List.length_map, sizeLine_eq]; omega) (we_tup ?_))
          repeat walk_at "v"
          refine we_ix (we_lst ?_)
          repeat walk_at "v"
          refine we_call d1 hr2 ?_
          repeat walk_at "v"
          refine ⟨6, rfl, by decide, fun x x0 x1 => ?_⟩
          obtain ⟨u, iu, u0, u1⟩ := pick_int (xs := [2, 1, 3, 0, 5, 9]) (n := 6) (lo := 0) (hi := 9) rfl (by decide) x0 (by omega)
          refine ⟨x, _, rfl, iu, ?_⟩
          refine was_nil ⟨ss ++ [(one a, one b', u)], _, by omega, ⟨?_, by rw [List.length_append, List.length_singleton]; omega, fun s hs => ?_⟩, by rw [List.map_append]; rfl⟩
          · rw [List.map_append]
            refine List.nodup_append.mpr ⟨j1, by simp, fun x hx y' hy => ?_⟩
            rw [List.map_cons, List.map_nil, List.mem_singleton] at hy
            subst hy
            intro e
            obtain ⟨s, hs, es⟩ := List.mem_map.mp hx
            rw [← es] at e
            obtain ⟨p, q, h1, h2, h3, h4, _⟩ := j3 s hs
            unfold seatKey at e
            rw [h1, h2] at e
            simp only [List.cons.injEq, Sum.inr.injEq, and_true] at e
            have pa := one_inj e.1
            have qb := one_inj e.2
            subst pa
            subst qb
            rcases h4 with h | ⟨_, h⟩
            · exact nodup_take gy.2.1 ha h
            · exact nodup_take gy.2.1 hb h
          · rcases List.mem_append.mp hs with h | h
            · exact grow.2.2 s h
            · rw [List.mem_singleton] at h
              subst h
              exact ⟨a, b', rfl, rfl, List.mem_of_getElem? hb, .inr ⟨ha, by rw [take_get hb]; simp⟩, u0, by show u ≤ 40; omega⟩
        · obtain ⟨ss, o14, jm, ⟨j1, j2, j3⟩, rfl⟩ := hI
          rw [signs_len] at j2 j3
          refine ⟨ss, _, o14, by omega, ⟨j1, ?_, fun s hs => ?_⟩, rfl⟩
          · rw [Vl.len_list, yl] at j2
            rw [Nat.add_zero, Nat.succ_mul]
            exact j2
          · obtain ⟨p, q, h1, h2, h3, h4, h5⟩ := j3 s hs
            exact ⟨p, q, h1, h2, h3, .inl (h4.elim (take_mem ha) fun ⟨h6, _⟩ => by rw [ha] at h6; cases h6; rw [take_get ha]; simp), h5⟩
      · obtain ⟨ss, o13, o14, im, ⟨j1, j2, j3⟩, rfl⟩ := hI
        rw [signs_len] at j2 j3
        have l16 : ss.length ≤ 16 := by
          have : y.length * m ≤ 4 * 4 := Nat.mul_le_mul (by rw [Vl.len_list]; omega) m3
          omega
        have oks : okSs y ss := ⟨fun s hs => by
          obtain ⟨p, q, h1, h2, h3, h4, h5⟩ := j3 s hs
          exact ⟨p, q, h1, h2, h4.elim (fun h => List.mem_of_mem_take h) fun ⟨h, _⟩ => List.mem_of_getElem? h, h3, h5⟩, j1⟩
        refine wss_pub 6 rfl (wss_pub 12 rfl (wss_one (ws_ret (we_tup ?_))))
        repeat walk_at "v"
        refine ⟨_, .inl rfl, ?_⟩
        repeat walk_at "v"
        refine ⟨_, .inl rfl, ?_⟩
        exact k z ks sp ss ⟨⟨_, gz, by omega, by omega⟩, okk, sp0, by omega, fun nm an => mem_iff_ss (mem nm an) oks, by omega⟩ l16
end
section
set_option maxHeartbeats 16000000
open PySem PySem.Spec PyProof.Rows L2 Vl
variable {cls : Nat → Addr} {P : Program} {w : World} {K : PySem.W.Frag} {mg : Str → Option Value} {base : Heap}
/-! ### check_number -/
abbrev s_cnum : Stmt := top 36
theorem sc_cnum : FnScope ["n"] ["n"] (defScope s_cnum) := ⟨rfl, rfl, rfl, by decide +kernel, rfl, by decide +kernel, by decide +kernel⟩
theorem nv_sc_cnum : NmOk ["n"] (defScope s_cnum) 1 := ⟨by decide +kernel⟩
def numB (d : D) : Bool := match d with
  | .int i => decide (1 ≤ i)
  | _ => false
def fs_cnum : FS := fun ds rt ex => ∃ d, ds = [d] ∧ dat d = true ∧ (numB d = true → rt .non) ∧ (numB d = false → ex (xNum d))
theorem ok_cnum {f : Addr} {fd : FuncData} (nb : NB mg) (d1 : Df P w K mg base cls "is_integer" 1 ["thing"] fs_is_integer) (x1 : Er P w K mg base cls "BadNumber" 10 ["number"]) (F : Fun K "check_number" "check_number" s_cnum f fd) : FnOk P w K mg base (L2N.CX P w) 3 f fd ["n"] (spOf cls fs_cnum) := by
  have hV := nv_sc_cnum
  refine def_ok F sc_cnum (fun ds rt ex h => ?_) (fun cdv A outer s H E W R ds rt ex hr h => ?_)
  · obtain ⟨_, rfl, _⟩ := h
    rfl
  · obtain ⟨d, rfl, hd, k1, k2⟩ := h
    refine wss_one (ws_if (wt_wp (wp_or (wt_not (wt_val (we_call d1 (hr.mono (by decide)) ?_))))))
    repeat walk_at "v"
    refine ⟨d, rfl, hd, _, rfl, fun e => ⟨fun _ => ?_, fun e => Bool.noConfusion e⟩, fun e => ?_⟩
    · refine wss_one (ws_raise (we_mkx x1 hr ?_))
      repeat walk_at "v"
      refine k2 ?_
      cases d <;> first | rfl | (simp [isA] at e)
    · obtain ⟨i, rfl⟩ : ∃ i, d = .int i := by
        cases d <;> first | exact ⟨_, rfl⟩ | (simp [isA] at e)
      refine wp_or1 (wt_lt ?_)
      repeat walk_at "v"
      refine ⟨_, _, rfl, rfl, _, rfl, fun e1 => ?_, fun e1 => wss_nil (k1 ?_)⟩
      · refine wss_one (ws_raise (we_mkx x1 hr ?_))
        repeat walk_at "v"
        exact k2 (decide_eq_false (by have := of_decide_eq_true e1; omega))
      · exact decide_eq_true (by have := of_decide_eq_false e1; omega)
/-! ### File.__init__ -/
abbrev i_init : Stmt := inClass (top 37) 0
abbrev i_eq : Stmt := inClass (top 37) 1
abbrev i_col : Stmt := inClass (top 37) 2
abbrev i_delay : Stmt := inClass (top 37) 3
abbrev i_len : Stmt := inClass (top 37) 4
abbrev i_delayp : Stmt := inClass (top 37) 5
abbrev i_lenp : Stmt := inClass (top 37) 6
abbrev iinitN : List Str := ["self", "make", "head", "part", "tail", "word", "text", "least"]
theorem si_init : FnScope iinitN ["self", "make", "head", "part", "tail"] (defScope i_init) := ⟨rfl, rfl, rfl, by decide +kernel, rfl, by decide +kernel, by decide +kernel⟩
theorem nv_si_init : NmOk iinitN (defScope i_init) 8 := ⟨by decide +kernel⟩
structure FlC (K : PySem.W.Frag) (C : Addr) : Prop where
  cl : Cls K C
  nM : NoAttr K C "make"
  nH : NoAttr K C "head"
  nP : NoAttr K C "part"
  nT : NoAttr K C "tail"
def filF (m : D) (h p t : Str) : List (Str × D) := [("make", m), ("head", .str h), ("part", .str p), ("tail", .str t)]
def fil (m : D) (h p t : Str) : D := .obj 30 (filF m h p t)
abbrev xFile (d : D) : Xd := ⟨17, [("word", d)]⟩
/-- whether it is a word for a file -/
def wordF (d : D) (nm : Str) (a : Int) : Bool := isNon (mispD d nm a 20)
/-- the first that is none -/
def firstF (nm : Str) (dh dp dt : D) : Option Str := if wordF dh nm 0 = false then some "head" else if wordF dp nm 1 = false then some "part" else if wordF dt nm 0 = false then some "tail" else none
theorem wordF_str {d : D} {nm : Str} {a : Int} (h : wordF d nm a = true) : ∃ g, d = .str g ∧ a ≤ (g.length : Int) ∧ g.length ≤ 20 ∧ ∀ n ∈ g.cps.toList, n ∈ nm.cps.toList := by
  unfold wordF at h
  cases d <;> first | exact Bool.noConfusion h | skip
  rename_i g
  rw [mispD_str] at h
  split at h
  · rename_i hl
    split at h
    · exact Bool.noConfusion h
    · rename_i hn
      refine ⟨g, rfl, hl.1, by omega, fun n hn' => ?_⟩
      have := List.findIdx?_eq_none_iff.mp hn n hn'
      simpa using this
  · exact Bool.noConfusion h
@[irreducible] def fi_file : FI := fun ds rt ex => ∃ z ks sp ss nm dh dp dt, ds = [mak z ks sp ss nm, dh, dp, dt] ∧ goodM z ks sp ss nm ∧ txtOk dh ∧ txtOk dp ∧ txtOk dt ∧ (∀ w, firstF nm dh dp dt = some w → ex (xFile (.str w))) ∧
  (∀ h p t, dh = .str h → dp = .str p → dt = .str t → vOk nm h p t → rt (filF (mak z ks sp ss nm) h p t))
theorem ok_file {f : Addr} {fd : FuncData} {t : Tok} (hS : mg "MOST_NAMES" = some (.int 20 t)) (T : MkC K (cls 26)) (C : FlC K (cls 30)) (d1 : Df P w K mg base cls "is_text" 2 ["thing", "letters", "least", "most"] fs_is_text) (d2 : Dp P w K mg base cls 26 "all_names" 1 fs_mnames) (x1 : Er P w K mg base cls "BadFile" 17 ["word"])
    (F : Fun K "__init__" "File.__init__" i_init f fd) : FnOk P w K mg base (L2N.CX P w) 3 f fd ["self", "make", "head", "part", "tail"] (spInit cls 30 fi_file) := by
  have hV := nv_si_init
  refine init_ok F si_init (fun ds rt ex h => ?_) (fun cdv A outer s H E W R Hb a ds rt ex hr h => ?_)
  · unfold fi_file at h
    obtain ⟨_, _, _, _, _, _, _, _, rfl, _⟩ := h
    rfl
  · unfold fi_file at h
    obtain ⟨z, ks, sp, ss, nm, dh, dp, dt, rfl, gM, th, tp, tt, k1, k2⟩ := h
    have hN := si_init.nd
    refine wss_cons (ws_for rfl (wi_tup ?_))
    repeat walk_at "v"
    refine ⟨_, rfl, fun i ρ' => ∃ o5 o6 o7 : Option Sv, (1 ≤ i → wordF dh nm 0 = true) ∧ (2 ≤ i → wordF dp nm 1 = true) ∧ (3 ≤ i → wordF dt nm 0 = true) ∧ ρ' = [some (.ob a 30 []), some (.val (mak z ks sp ss nm)), some (.val dh), some (.val dp), some (.val dt), o5, o6, o7], ⟨none, none, none, fun h => by omega, fun h => by omega, fun h => by omega, rfl⟩, fun i d ρ' hi hI => ?_, fun ρ' hI => ?_⟩
    · obtain ⟨o5, o6, o7, w1, w2, w3, rfl⟩ := hI
      have turn : ∀ (wd : Str) (dx : D) (le : Int), txtOk dx → (wordF dx nm le = false → ex (xFile (.str wd))) → ∀ nx ct bk : Rho → Prop, (wordF dx nm le = true → nx [some (.ob a 30 []), some (.val (mak z ks sp ss nm)), some (.val dh), some (.val dp), some (.val dt), some (.val (.str wd)), some (.val dx), some (.val (.int le))]) →
          WSs (⟨cxOf (L2N.CX P w) P w K mg base iinitN "File.__init__" (defScope i_init) f cdv A outer s H E, W, R, Hb⟩ : Cy cls) (forBody ((defBody i_init).getD 0 (.Pass ⟨0, 0, 0, 0⟩))) [some (.ob a 30 []), some (.val (mak z ks sp ss nm)), some (.val dh), some (.val dp), some (.val dt), some (.val (.str wd)), some (.val dx), some (.val (.int le))] { nx := nx, ct := ct, bk := bk, rt := fun _ _ => False, ex := fun _ => ex } := by
        intro wd dx le tx kf nx ct bk kt
        refine wss_one (ws_if (wt_not (wt_val (we_call d1 hr ?_))))
        repeat walk_at "v"
        refine we_prop T.cl d2 (hr.mono (by decide)) ?_
        repeat walk_at "v"
        refine ⟨_, rfl, z, ks, sp, ss, nm, rfl, ?_⟩
        repeat walk_at "v"
        refine we_gint hS ?_
        refine was_nil ⟨dx, nm, le, 20, rfl, tx, _, rfl, fun e => ?_, fun e => wss_nil (kt (by unfold wordF; simpa using e))⟩
        refine wss_one (ws_raise (we_mkx x1 hr ?_))
        repeat walk_at "v"
        exact kf (by unfold wordF; simpa using e)
      match i, hi with
      | 0, hi =>
        cases hi
        refine wg_tup rfl ⟨_, rfl, rfl, wg_name 5 hN rfl (wg_name 6 hN rfl (wg_name 7 hN rfl ?_))⟩
        refine turn "head" dh 0 th (fun e => k1 _ (by unfold firstF; rw [if_pos e])) _ _ _ fun e => ⟨_, _, _, fun _ => e, fun h => by omega, fun h => by omega, rfl⟩
      | 1, hi =>
        cases hi
        have w1 := w1 (by decide)
        refine wg_tup rfl ⟨_, rfl, rfl, wg_name 5 hN rfl (wg_name 6 hN rfl (wg_name 7 hN rfl ?_))⟩
        refine turn "part" dp 1 tp (fun e => k1 _ (by unfold firstF; rw [if_neg (by rw [w1]; decide), if_pos e])) _ _ _ fun e => ⟨_, _, _, fun _ => w1, fun _ => e, fun h => by omega, rfl⟩
      | 2, hi =>
        cases hi
        have w1 := w1 (by decide)
        have w2 := w2 (by decide)
        refine wg_tup rfl ⟨_, rfl, rfl, wg_name 5 hN rfl (wg_name 6 hN rfl (wg_name 7 hN rfl ?_))⟩
        refine turn "tail" dt 0 tt (fun e => k1 _ (by unfold firstF; rw [if_neg (by rw [w1]; decide), if_neg (by rw [w2]; decide), if_pos e])) _ _ _ fun e => ⟨_, _, _, fun _ => w1, fun _ => w2, fun _ => e, rfl⟩
      | i + 3, hi => cases hi
    · obtain ⟨o5, o6, o7, w1, w2, w3, rfl⟩ := hI
      obtain ⟨h, rfl, h0, h20, hm⟩ := wordF_str (w1 (by show 1 ≤ 3; decide))
      obtain ⟨p, rfl, p0, p20, pm⟩ := wordF_str (w2 (by show 2 ≤ 3; decide))
      obtain ⟨t', rfl, t0, t20, tm⟩ := wordF_str (w3 (by show 3 ≤ 3; decide))
      have k2 := k2 h p t' rfl rfl rfl ⟨h20, by omega, p20, t20, hm, pm, tm⟩
      refine wss_forget 5 (wss_forget 6 (wss_forget 7 ?_))
      refine wss_cons (ws_fld 0 C.cl C.nM rfl rfl ?_)
      repeat walk_at "v"
      refine wss_cons (ws_fld 0 C.cl C.nH rfl rfl (hl := (by decide : 1 < 1000)) ?_)
      repeat walk_at "v"
      refine wss_cons (ws_fld 0 C.cl C.nP rfl rfl (hl := (by decide : 2 < 1000)) ?_)
      repeat walk_at "v"
      refine wss_one (ws_fld 0 C.cl C.nT rfl rfl (hl := (by decide : 3 < 1000)) ?_)
      repeat walk_at "v"
      exact ⟨_, rfl, k2⟩
end
section
set_option maxHeartbeats 16000000
open PySem PySem.Spec PyProof.Rows L2 Vl
variable {cls : Nat → Addr} {P : Program} {w : World} {K : PySem.W.Frag} {mg : Str → Option Value} {base : Heap}
abbrev c_rest : Stmt := inClass (top 33) 8
theorem sl_rest : FnScope ["self"] ["self"] (defScope c_rest) := ⟨rfl, rfl, rfl, by decide +kernel, rfl, by decide +kernel, by decide +kernel⟩
theorem nv_sl_rest : NmOk ["self"] (defScope c_rest) 1 := ⟨by decide +kernel⟩
theorem ok_rest {f : Addr} {fd : FuncData} (nb : NB mg) (T : MkC K (cls 26)) (C : ClC K (cls 27)) (db : Dm P w K mg base cls 26 "body_of" 1 ["self", "name"] fun ds rt _ => ∃ z ks sp ss nm n, ds = [mak z ks sp ss nm, .str n] ∧ goodM z ks sp ss nm ∧ n ∈ ks.map (·.1) ∧ rt (.int (bodyOf ks n)))
    (dp : Dp P w K mg base cls 27 "front_row" 5 (fs_crow fun ks ss sp l => intsT (frontL ks ss sp l))) (F : Fun K "rest_length" "Column.rest_length" c_rest f fd) :
    FnOk P w K mg base (L2N.CX P w) 7 f fd ["self"] (spOf cls (fs_crow fun ks ss sp l => .int (restOf ks ss sp l))) := by
  have hV := nv_sl_rest
  refine def_ok F sl_rest (fun ds rt ex h => ?_) (fun cdv A outer s H E W R ds rt ex hr h => ?_)
  · obtain ⟨_, _, _, _, _, _, rfl, _⟩ := h
    rfl
  · obtain ⟨z, ks, sp, ss, nm, g, rfl, gm, gg, k⟩ := h
    have l1 := gg.l1
    have l60 := gg.l60
    have ne : g.cps.toList ≠ [] := fun e => by have := Vl.len_list g; rw [e] at this; simp at this; omega
    have eg : g.cps.toList.getLast? = some (g.cps.toList.getLastD 0) := by
      rw [List.getLast?_eq_some_getLast ne, List.getLastD_eq_getLast?, List.getLast?_eq_some_getLast ne]
      rfl
    have mg : g.cps.toList.getLastD 0 ∈ nm.cps.toList := gg.mem _ (List.mem_of_getLast? eg)
    obtain ⟨h1, h2⟩ := name_of gm mg
    refine wss_one (ws_ret (we_sub (we_meth T.cl db (hr.mono (by decide)) (we_fld C.cl C.nM ?_))))
    repeat walk_at "v"
    refine ⟨_, _, rfl, rfl, _, rfl, rfl, ?_⟩
    refine we_ix (we_fld C.cl C.nG ?_)
    repeat walk_at "v"
    refine ⟨_, _, rfl, rfl, ?_⟩
    refine we_neg ?_
    repeat walk_at "v"
    refine ⟨1, rfl, -1, .str (one (g.cps.toList.getLastD 0)), rfl, ?_, z, ks, sp, ss, nm, _, rfl, gm, h2, ?_⟩
    · show (if g.length ≤ sizeLine then (L2.atI g.cps.toList (-1)).map fun n => D.str ⟨#[n]⟩ else none) = _
      rw [if_pos (by rw [sizeLine_eq]; omega), atI_last eg]
      rfl
    refine we_ix (we_prop C.cl dp hr ?_)
    repeat walk_at "v"
    refine ⟨_, rfl, z, ks, sp, ss, nm, g, rfl, gm, gg, ?_⟩
    refine we_neg ?_
    repeat walk_at "v"
    refine ⟨1, rfl, -1, _, rfl, sums_last _ _, _, _, rfl, rfl, ?_⟩
    have e : List.take (g.cps.toList.length - 1) (stepL ks ss sp g.cps.toList) = stepL ks ss sp g.cps.toList := List.take_of_length_le (by unfold stepL; rw [List.length_map, zip_tail_len]; exact Nat.le_refl _)
    rw [e]
    exact k
/-! ### File.__eq__ -/
theorem si_eq : FnScope ["self", "other"] ["self", "other"] (defScope i_eq) := ⟨rfl, rfl, rfl, by decide +kernel, rfl, by decide +kernel, by decide +kernel⟩
theorem nv_si_eq : NmOk ["self", "other"] (defScope i_eq) 2 := ⟨by decide +kernel⟩
@[irreducible] def fs_feq : FS := fun ds rt _ => ∃ z ks sp ss nm h p t o, ds = [fil (mak z ks sp ss nm) h p t, o] ∧ goodM z ks sp ss nm ∧
  ((∃ z' ks' sp' ss' nm' h' p' t', o = fil (mak z' ks' sp' ss' nm') h' p' t' ∧ goodM z' ks' sp' ss' nm' ∧ rt (.bl ((decide (z = z') && (decide (ks = ks') && (decide (sp = sp') && decide (ss = ss')))) && (decide (h = h') && (decide (p = p') && decide (t = t')))))) ∨ (dat o = true ∧ (∀ k gs, o ≠ .obj k gs) ∧ rt (.bl false)))
theorem ok_feq {f : Addr} {fd : FuncData} (nb : NB mg) (C : FlC K (cls 30)) (I : MkI K mg "File" (cls 30)) (IM : InsF K (cls 26)) (nf : PySem.W.notFirst K (cls 26) (.ref (cls 26)) = true) (dm : Dm P w K mg base cls 26 "__eq__" 1 ["self", "other"] fs_meq) (F : Fun K "__eq__" "File.__eq__" i_eq f fd) : FnOk P w K mg base (L2N.CX P w) 2 f fd ["self", "other"] (spOf cls fs_feq) := by
  have hV := nv_si_eq
  refine def_ok F si_eq (fun ds rt ex h => ?_) (fun cdv A outer s H E W R ds rt ex hr h => ?_)
  · unfold fs_feq at h
    obtain ⟨_, _, _, _, _, _, _, _, _, rfl, _⟩ := h
    rfl
  · unfold fs_feq at h
    obtain ⟨z, ks, sp, ss, nm, h, p, t, o, rfl, gm, h2⟩ := h
    refine wss_one (ws_ret (we_and (we_isi nb ?_)))
    repeat walk_at "v"
    refine we_gcl I.nm ?_
    rcases h2 with ⟨z', ks', sp', ss', nm', h', p', t', rfl, gm', k⟩ | ⟨h3, h4, k⟩
    · refine ⟨_, _, true, rfl, rfl, fun k fs e => ?_, I.yes, _, rfl, fun _ => ?_, fun e => Bool.noConfusion e⟩
      · cases e
        exact I.ins
      refine we_and (we_eqO (Dm.obm dm) hr (we_fld C.cl C.nM ?_))
      repeat walk_at "v"
      refine ⟨_, _, rfl, rfl, ?_⟩
      refine we_fld C.cl C.nM ?_
      repeat walk_at "v"
      refine ⟨_, _, rfl, rfl, _, _, rfl, rfl, fun kk fs e => by cases e; exact IM, nf, ?_⟩
      unfold fs_meq
      refine ⟨z, ks, sp, ss, nm, _, rfl, gm, .inl ⟨z', ks', sp', ss', nm', rfl, gm', _, rfl, _, rfl, fun e => ?_, fun e => ?_⟩⟩
      · rw [e, Bool.true_and] at k
        refine we_and (we_eq (we_fld C.cl C.nH ?_))
        repeat walk_at "v"
        refine ⟨_, _, rfl, rfl, ?_⟩
        refine we_fld C.cl C.nH ?_
        repeat walk_at "v"
        refine ⟨_, _, rfl, rfl, eq_str ⟨_, rfl, fun e => ?_, fun e => ?_⟩⟩
        · rw [e, Bool.true_and] at k
          refine we_and (we_eq (we_fld C.cl C.nP ?_))
          repeat walk_at "v"
          refine ⟨_, _, rfl, rfl, ?_⟩
          refine we_fld C.cl C.nP ?_
          repeat walk_at "v"
          refine ⟨_, _, rfl, rfl, eq_str ⟨_, rfl, fun e => ?_, fun e => ?_⟩⟩
          · rw [e, Bool.true_and] at k
            refine we_one (we_eq (we_fld C.cl C.nT ?_))
            repeat walk_at "v"
            refine ⟨_, _, rfl, rfl, ?_⟩
            refine we_fld C.cl C.nT ?_
            repeat walk_at "v"
            exact ⟨_, _, rfl, rfl, eq_str k⟩
          · rw [e] at k
            exact k
        · rw [e] at k
          exact k
      · rw [e] at k
        exact k
    · obtain ⟨n, hn, ht⟩ := tag_plain (cls := cls) h3 h4
      refine ⟨_, _, false, ht, rfl, fun k fs e => absurd e (h4 k fs), I.no n hn, _, rfl, fun e => Bool.noConfusion e, fun _ => k⟩
/-! ### File.delay_of_part -/
theorem si_delayp : FnScope ["self", "name"] ["self"] (defScope i_delayp) := ⟨rfl, rfl, rfl, by decide +kernel, rfl, by decide +kernel, by decide +kernel⟩
theorem nv_si_delayp : NmOk ["self", "name"] (defScope i_delayp) 1 := ⟨by decide +kernel⟩
def sumLag (ks : List Kd) (l : List Nat) : Int := (l.map fun n => (kindOf ks (one n)).1).sum
def fs_filp (f : List Kd → List Se → Int → Str → D) : FS := fun ds rt _ => ∃ z ks sp ss nm h p t, ds = [fil (mak z ks sp ss nm) h p t] ∧ goodM z ks sp ss nm ∧ vOk nm h p t ∧ rt (f ks ss sp p)
theorem ok_delayp {f : Addr} {fd : FuncData} (nb : NB mg) (T : MkC K (cls 26)) (C : FlC K (cls 30)) (dl : Dm P w K mg base cls 26 "lag_of" 4 ["self", "name"] (fsN fun _ ks _ _ _ n => .int (kindOf ks n).1)) (F : Fun K "delay_of_part" "File.delay_of_part" i_delayp f fd) :
    FnOk P w K mg base (L2N.CX P w) 5 f fd ["self"] (spOf cls (fs_filp fun ks _ _ p => .int (sumLag ks p.cps.toList))) := by
  have hV := nv_si_delayp
  refine def_ok F si_delayp (fun ds rt ex h => ?_) (fun cdv A outer s H E W R ds rt ex hr h => ?_)
  · obtain ⟨_, _, _, _, _, _, _, _, rfl, _⟩ := h
    rfl
  · obtain ⟨z, ks, sp, ss, nm, h, p, t, rfl, gm, gv, k⟩ := h
    have hN := si_delayp.nd
    have pl := gv.pl
    refine wss_one (ws_ret (we_sum nb (we_lc 1 hN (LC.map (wi_str (we_fld C.cl C.nP ?_))))))
    repeat walk_at "v"
    refine ⟨_, _, rfl, rfl, p, rfl, by rw [signs_len]; omega, fun i x y => ∃ n, x = .str (one n) ∧ y = .int (kindOf ks (one n)).1, fun i x hi => ⟨_, rfl, fun s0 H0 C0 cl0 fp0 => ?_⟩, fun acc a1 a2 => ?_⟩
    · obtain ⟨n, hn, rfl⟩ := signs_get hi
      obtain ⟨h1, h2⟩ := name_of gm (gv.pm n (List.mem_of_getElem? hn))
      refine we_meth T.cl dl hr (we_fld C.cl C.nM ?_)
      repeat walk_at "v"
      refine ⟨_, _, rfl, rfl, _, rfl, rfl, ?_⟩
      repeat walk_at "v"
      refine ⟨z, ks, sp, ss, nm, _, rfl, gm, txt_one n, fun e => (by rw [h1] at e; cases e), fun m em _ => ?_⟩
      cases em
      exact ⟨n, rfl, rfl⟩
    · refine ⟨p.cps.toList.map fun n => (kindOf ks (one n)).1, ?_, k⟩
      refine congrArg D.lst ?_
      apply List.ext_getElem?
      intro i
      rw [List.map_map, List.getElem?_map]
      rw [signs_len] at a1
      by_cases hi : i < p.length
      · have hi2 : i < p.cps.toList.length := by rw [← Vl.len_list]; exact hi
        have ex := List.getElem?_eq_getElem (show i < (Vl.signs p).length by rw [signs_len]; exact hi)
        have ea := List.getElem?_eq_getElem (show i < acc.length by omega)
        obtain ⟨n, e1, e2⟩ := a2 i _ _ ex ea
        obtain ⟨n', hn', e3⟩ := signs_get ex
        rw [e3] at e1
        have : n' = n := by simpa [one] using e1
        subst this
        rw [ea, e2, hn']
        rfl
      · rw [List.getElem?_eq_none (by omega), List.getElem?_eq_none (by rw [← Vl.len_list]; omega)]
        rfl
end
section
set_option maxHeartbeats 16000000
open PySem PySem.Spec PyProof.Rows L2 Vl
variable {cls : Nat → Addr} {P : Program} {w : World} {K : PySem.W.Frag} {mg : Str → Option Value} {base : Heap}
/-! ### File.length_of_part -/
theorem si_lenp : FnScope ["self", "near", "ahead", "behind"] ["self"] (defScope i_lenp) := ⟨rfl, rfl, rfl, by decide +kernel, rfl, by decide +kernel, by decide +kernel⟩
theorem nv_si_lenp : NmOk ["self", "near", "ahead", "behind"] (defScope i_lenp) 2 := ⟨by decide +kernel⟩
/-- the part once around -/
def rotL (l : List Nat) : List Nat := l.tail ++ l.take 1
def sumLen (ks : List Kd) (ss : List Se) (sp : Int) (l : List Nat) : Int := ((l.zip (rotL l)).map fun q => bodyOf ks (one q.1) + seatOf ss sp (one q.1) (one q.2)).sum
theorem ok_lenp {f : Addr} {fd : FuncData} (nb : NB mg) (hz : mg "zip" = none) (T : MkC K (cls 26)) (C : FlC K (cls 30)) (db : Dm P w K mg base cls 26 "body_of" 1 ["self", "name"] fun ds rt _ => ∃ z ks sp ss nm n, ds = [mak z ks sp ss nm, .str n] ∧ goodM z ks sp ss nm ∧ n ∈ ks.map (·.1) ∧ rt (.int (bodyOf ks n)))
    (dS : Dm P w K mg base cls 26 "seat_of" 4 ["self", "ahead", "behind"] fun ds rt ex => ∃ z ks sp ss nm d e, ds = [mak z ks sp ss nm, d, e] ∧ goodM z ks sp ss nm ∧ txtOk d ∧ txtOk e ∧ (ltrB d nm = false → ex (xUnk d)) ∧ (ltrB d nm = true → ltrB e nm = false → ex (xUnk e)) ∧ (∀ a b, d = .str a → e = .str b → ltrB d nm = true → ltrB e nm = true → rt (.int (seatOf ss sp a b))))
    (F : Fun K "length_of_part" "File.length_of_part" i_lenp f fd) :
    FnOk P w K mg base (L2N.CX P w) 5 f fd ["self"] (spOf cls (fs_filp fun ks ss sp p => .int (sumLen ks ss sp p.cps.toList))) := by
  have hV := nv_si_lenp
  refine def_ok F si_lenp (fun ds rt ex h => ?_) (fun cdv A outer s H E W R ds rt ex hr h => ?_)
  · obtain ⟨_, _, _, _, _, _, _, _, rfl, _⟩ := h
    rfl
  · obtain ⟨z, ks, sp, ss, nm, h, p, t, rfl, gm, gv, k⟩ := h
    have hN := si_lenp.nd
    have pl := gv.pl
    have p1 := gv.p1
    have pL := Vl.len_list (z := p)
    obtain ⟨n0, e0⟩ : ∃ n, p.cps.toList[0]? = some n := ⟨_, List.getElem?_eq_getElem (show 0 < p.cps.toList.length by omega)⟩
    refine wss_zip2sum 1 2 3 nb hz hN rfl (by show 1 < 4; decide) ?_
    refine we_fld C.cl C.nP ?_
    repeat walk_at "v"
    refine ⟨_, _, rfl, rfl, ?_⟩
    refine we_addS (we_sliceS (we_fld C.cl C.nP ?_))
    repeat walk_at "v"
    refine ⟨_, _, rfl, rfl, p, rfl, by rw [sizeLine_eq]; omega, ?_⟩
    show Vl.WE _ _ _ _ _
    repeat walk_at "v"
    refine ⟨1, rfl, ?_⟩
    refine we_ix (we_fld C.cl C.nP ?_)
    repeat walk_at "v"
    refine ⟨_, _, rfl, rfl, ?_⟩
    repeat walk_at "v"
    have i0 := item_str (z := p) (i := 0) (by omega) e0
    have cs := cut_suf p (k := 1)
    have cl : (cutS p (some (1 : Int)) none).length = p.length - 1 := by
      rw [Vl.len_list, show (cutS p (some (1 : Int)) none).cps.toList = p.cps.toList.drop 1 from cs, List.length_drop, pL]
    refine ⟨0, _, rfl, i0, _, _, rfl, rfl, ?_, ?_⟩
    · show _ + 1 ≤ _
      rw [cl, sizeLine_eq]
      omega
    have yl : (cutS p (some (1 : Int)) none ++ (⟨#[n0]⟩ : Str)).cps.toList = rotL p.cps.toList := by
      rw [app_list, show (cutS p (some (1 : Int)) none).cps.toList = p.cps.toList.drop 1 from cs]
      unfold rotL
      rw [List.drop_one]
      congr 1
      cases hp : p.cps.toList with
      | nil => rw [hp] at e0; cases e0
      | cons a l =>
        rw [hp] at e0
        cases e0
        simp
    obtain ⟨y, ey⟩ : ∃ y, cutS p (some (1 : Int)) none ++ (⟨#[n0]⟩ : Str) = y := ⟨_, rfl⟩
    rw [ey] at yl
    dsimp only
    rw [ey]
    have rl : (rotL p.cps.toList).length = p.cps.toList.length := by
      unfold rotL
      rw [List.length_append, List.length_tail, List.length_take]
      omega
    have ym : ∀ n ∈ y.cps.toList, n ∈ nm.cps.toList := fun n hn => by
      rw [yl] at hn
      unfold rotL at hn
      rcases List.mem_append.mp hn with h | h
      · exact gv.pm n (List.mem_of_mem_tail h)
      · exact gv.pm n (List.mem_of_mem_take h)
    have zl : (zip2D p y).length = p.length := by
      unfold zip2D
      rw [List.length_map, List.length_zip, signs_len, signs_len, Vl.len_list (z := y), yl, rl]
      omega
    refine was_nil ⟨p, y, rfl, by rw [zl]; omega, fun i d v => ∃ a b, p.cps.toList[i]? = some a ∧ y.cps.toList[i]? = some b ∧ v = .int (bodyOf ks (one a) + seatOf ss sp (one a) (one b)), fun i d hi => ?_, fun acc a1 a2 => ?_⟩
    · obtain ⟨a, b, ha, hb, rfl⟩ := zip2D_get hi
      obtain ⟨h1, h2⟩ := name_of gm (gv.pm a (List.mem_of_getElem? ha))
      obtain ⟨h3, h4⟩ := name_of gm (ym b (List.mem_of_getElem? hb))
      refine ⟨_, ⟨_, _, rfl, rfl⟩, fun s0 H0 C0 cl0 fp0 => ?_⟩
      refine we_add (we_meth T.cl db (hr.mono (by decide)) (we_fld C.cl C.nM ?_))
      repeat walk_at "v"
      refine ⟨_, _, rfl, rfl, _, rfl, rfl, ?_⟩
      repeat walk_at "v"
      refine ⟨z, ks, sp, ss, nm, _, rfl, gm, h2, ?_⟩
      refine we_meth T.cl dS hr (we_fld C.cl C.nM ?_)
      repeat walk_at "v"
      refine ⟨_, _, rfl, rfl, _, rfl, rfl, ?_⟩
      repeat walk_at "v"
      refine ⟨z, ks, sp, ss, nm, _, _, rfl, gm, txt_one a, txt_one b, fun e => (by rw [h1] at e; cases e), fun _ e => (by rw [h3] at e; cases e), fun x y' ex ey' _ _ => ?_⟩
      cases ex
      cases ey'
      exact ⟨_, _, rfl, rfl, a, b, ha, hb, rfl⟩
    · refine ⟨(p.cps.toList.zip (rotL p.cps.toList)).map fun q : Nat × Nat => bodyOf ks (one q.1) + seatOf ss sp (one q.1) (one q.2), ?_, k⟩
      apply List.ext_getElem?
      intro i
      rw [List.map_map, List.getElem?_map]
      by_cases hi : i < p.length
      · have ex := List.getElem?_eq_getElem (show i < (zip2D p y).length by omega)
        have ea := List.getElem?_eq_getElem (show i < acc.length by omega)
        obtain ⟨a, b, e1, e2, e3⟩ := a2 i _ _ ex ea
        rw [yl] at e2
        rw [ea, e3, (List.getElem?_zip_eq_some (z := (a, b))).mpr ⟨e1, e2⟩]
        rfl
      · rw [List.getElem?_eq_none (by omega), List.getElem?_eq_none (by rw [List.length_zip, rl]; omega)]
        rfl
/-! ### File.column_of -/
theorem si_col : FnScope ["self", "n"] ["self", "n"] (defScope i_col) := ⟨rfl, rfl, rfl, by decide +kernel, rfl, by decide +kernel, by decide +kernel⟩
theorem nv_si_col : NmOk ["self", "n"] (defScope i_col) 2 := ⟨by decide +kernel⟩
/-- the groups of the column with n parts -/
def grp (h p t : Str) (n : Nat) : Str := h ++ Txt.mul p (n : Nat) ++ t
theorem grp_len (h p t : Str) (n : Nat) : (grp h p t n).length = h.length + n * p.length + t.length := by
  unfold grp
  rw [app_len, app_len, mul_len, Nat.mul_comm]
theorem grp_mem {nm h p t : Str} (v : vOk nm h p t) (n : Nat) : ∀ m ∈ (grp h p t n).cps.toList, m ∈ nm.cps.toList := fun m hm => by
  unfold grp at hm
  rw [app_list, app_list, List.mem_append, List.mem_append] at hm
  rcases hm with (hm | hm) | hm
  · exact v.hm m hm
  · exact v.pm m (mul_mem hm)
  · exact v.tm m hm
theorem grp_good {nm h p t : Str} (v : vOk nm h p t) {n : Nat} (n1 : 1 ≤ n) (l : h.length + n * p.length + t.length ≤ 60) : goodG nm (grp h p t n) := by
  have p1 := v.p1
  have : 1 * 1 ≤ n * p.length := Nat.mul_le_mul n1 p1
  exact ⟨by rw [grp_len]; omega, by rw [grp_len]; omega, grp_mem v n⟩
@[irreducible] def fs_colof : FS := fun ds rt ex => ∃ z ks sp ss nm h p t d, ds = [fil (mak z ks sp ss nm) h p t, d] ∧ goodM z ks sp ss nm ∧ vOk nm h p t ∧ dat d = true ∧ (numB d = false → ex (xNum d)) ∧
  (∀ n : Nat, 1 ≤ n → d = .int (n : Nat) → (60 < h.length + n * p.length + t.length → ex (xCol (.int (-1)))) ∧ (h.length + n * p.length + t.length ≤ 60 → rt (col (mak z ks sp ss nm) (grp h p t n))))
theorem ok_colof {f : Addr} {fd : FuncData} {t : Tok} (hS : mg "MOST_GROUPS" = some (.int 60 t)) (C : FlC K (cls 30)) (d1 : Df P w K mg base cls "check_number" 3 ["n"] fs_cnum) (d2 : Df P w K mg base cls "in_bounds" 2 ["thing", "least", "most"] fs_in_bounds) (dk : Dk P w K mg base cls "Column" 27 3 ["make", "groups"] fi_col) (x1 : Er P w K mg base cls "BadColumn" 9 ["number"])
    (F : Fun K "column_of" "File.column_of" i_col f fd) : FnOk P w K mg base (L2N.CX P w) 5 f fd ["self", "n"] (spOf cls fs_colof) := by
  have hV := nv_si_col
  refine def_ok F si_col (fun ds rt ex h => ?_) (fun cdv A outer s H E W R ds rt ex hr h => ?_)
  · unfold fs_colof at h
    obtain ⟨_, _, _, _, _, _, _, _, _, rfl, _⟩ := h
    rfl
  · unfold fs_colof at h
    obtain ⟨z, ks, sp, ss, nm, h, p, t, d, rfl, gm, gv, hd, k1, k2⟩ := h
    have hl := gv.hl
    have pl := gv.pl
    have p1 := gv.p1
    have tl := gv.tl
    refine wss_cons (ws_expr (we_call d1 (hr.mono (by decide)) ?_))
    repeat walk_at "v"
    refine ⟨d, rfl, hd, fun e => ?_, k1⟩
    obtain ⟨i, rfl⟩ : ∃ i, d = .int i := by
      cases d <;> first | exact ⟨_, rfl⟩ | exact Bool.noConfusion e
    have e := of_decide_eq_true (show decide (1 ≤ i) = true from e)
    obtain ⟨n, rfl⟩ : ∃ n : Nat, i = (n : Int) := ⟨i.toNat, by omega⟩
    obtain ⟨k3, k4⟩ := k2 n (by omega) rfl
    refine wss_cons (ws_if (wt_not (wt_val (we_call d2 (hr.mono (by decide)) ?_))))
    repeat walk_at "v"
    refine we_gint hS ?_
    refine was_nil ⟨_, 1, 60, rfl, rfl, _, rfl, fun e1 => ?_, fun e1 => wss_nil ?_⟩
    · refine wss_one (ws_raise (we_mkx x1 (hr.mono (by decide)) ?_))
      refine we_neg ?_
      repeat walk_at "v"
      refine ⟨1, rfl, k3 ?_⟩
      have e1 : inB (.int (n : Nat)) 1 60 = false := by simpa using e1
      have big : 60 < n := by
        by_cases hb : n ≤ 60
        · rw [inB_of (by omega) (by omega)] at e1
          cases e1
        · omega
      have : 61 * 1 ≤ n * p.length := Nat.mul_le_mul big p1
      omega
    · have e1 : inB (.int (n : Nat)) 1 60 = true := by simpa using e1
      obtain ⟨i, ei, i1, i60⟩ := inB_int e1
      have ei := D.int.inj ei
      have n60 : n ≤ 60 := by omega
      have np : n * p.length ≤ 60 * 20 := Nat.mul_le_mul n60 pl
      refine wss_one (ws_ret (we_make dk hr (we_fld C.cl C.nM ?_)))
      repeat walk_at "v"
      refine ⟨_, _, rfl, rfl, ?_⟩
      refine we_addS (we_addS (we_fld C.cl C.nH ?_))
      repeat walk_at "v"
      refine ⟨_, _, rfl, rfl, ?_⟩
      refine we_mulS (we_fld C.cl C.nP ?_)
      repeat walk_at "v"
      refine ⟨_, _, rfl, rfl, ?_⟩
      repeat walk_at "v"
      have ml : (Txt.mul p (n : Nat)).length = p.length * n := mul_len p n
      have np' : p.length * n = n * p.length := Nat.mul_comm _ _
      refine ⟨_, _, rfl, rfl, mulOk_of (by omega) (by omega), _, _, rfl, rfl, by rw [ml, sizeLine_eq]; omega, ?_⟩
      refine we_fld C.cl C.nT ?_
      repeat walk_at "v"
      refine ⟨_, _, rfl, rfl, _, _, rfl, rfl, by rw [app_len, ml, sizeLine_eq]; omega, ?_⟩
      have gl := grp_len h p t n
      have mm := grp_mem gv n
      have eg : h ++ Txt.mul p (n : Nat) ++ t = grp h p t n := rfl
      refine was_nil ?_
      unfold fi_col
      rw [eg]
      refine ⟨z, ks, sp, ss, nm, _, rfl, ⟨rfl, fun y e => by cases e; omega⟩, fun y e1 e2 => ?_, fun g e _ => ?_⟩
      · rw [mispD_str] at e1
        by_cases hb : h.length + n * p.length + t.length ≤ 60
        · exfalso
          have nn : 1 * 1 ≤ n * p.length := Nat.mul_le_mul (by omega) p1
          rw [if_pos ⟨by omega, by omega⟩] at e1
          have : offAt (grp h p t n) nm = none := List.findIdx?_eq_none_iff.mpr fun m hm => by simp [mm m hm]
          rw [this] at e1
          subst e1
          cases e2
        · rw [if_neg (by omega)] at e1
          subst e1
          exact k3 (by omega)
      · cases e
        rename_i gg
        exact k4 (by have := gg.l60; omega)
end
section
set_option maxHeartbeats 16000000
open PySem PySem.Spec PyProof.Rows L2 Vl
variable {cls : Nat → Addr} {P : Program} {w : World} {K : PySem.W.Frag} {mg : Str → Option Value} {base : Heap}
theorem sum_bd {lo hi : Int} : ∀ {l : List Int}, (∀ x ∈ l, lo ≤ x ∧ x ≤ hi) → lo * (l.length : Int) ≤ l.sum ∧ l.sum ≤ hi * (l.length : Int)
  | [], _ => by simp
  | x :: l, h => by
    have h1 := h x List.mem_cons_self
    have h2 := sum_bd fun y hy => h y (List.mem_cons_of_mem _ hy)
    rw [List.sum_cons, List.length_cons, Int.natCast_add, Int.mul_add, Int.mul_add]
    omega
theorem lag_bd {z ks sp ss nm} (g : goodM z ks sp ss nm) {n : Nat} (h : n ∈ nm.cps.toList) : 1 ≤ (kindOf ks (one n)).1 ∧ (kindOf ks (one n)).1 ≤ 3 := by
  obtain ⟨_, h2⟩ := atK_kind (name_of g h).2
  have k := g.gk.2 _ h2
  exact ⟨k.2.1, k.2.2.1⟩
theorem body_bd {z ks sp ss nm} (g : goodM z ks sp ss nm) {n : Nat} (h : n ∈ nm.cps.toList) : 1 ≤ bodyOf ks (one n) ∧ bodyOf ks (one n) ≤ 12 := by
  obtain ⟨_, h2⟩ := atK_kind (name_of g h).2
  have okr := (g.gk.2 _ h2).2.2.2
  have e0 := List.getElem?_eq_getElem (show 0 < (kindOf ks (one n)).2.length from okr.2.1)
  obtain ⟨r, er⟩ : ∃ r, (kindOf ks (one n)).2[0]? = some r := ⟨_, e0⟩
  have := (okr.2.2.2 r (List.mem_of_getElem? er)).2.1
  unfold bodyOf
  rw [er]
  exact this
theorem seat_bd {z ks sp ss nm} (g : goodM z ks sp ss nm) (a b : Str) : 0 ≤ seatOf ss sp a b ∧ seatOf ss sp a b ≤ 40 := by
  have s0 := g.s0
  have s20 := g.s20
  unfold seatOf
  cases e : ss.find? fun s => decide (s.1 = a ∧ s.2.1 = b) with
  | none => exact ⟨s0, by show sp ≤ 40; omega⟩
  | some s =>
    obtain ⟨_, _, _, _, _, _, h⟩ := g.gs.1 s (List.mem_of_find?_eq_some e)
    exact h
theorem sumLag_bd {z ks sp ss nm h p t} (g : goodM z ks sp ss nm) (v : vOk nm h p t) : 0 ≤ sumLag ks p.cps.toList ∧ sumLag ks p.cps.toList ≤ 60 := by
  have pl := v.pl
  have pL := Vl.len_list (z := p)
  unfold sumLag
  have := sum_bd (l := p.cps.toList.map fun n => (kindOf ks (one n)).1) (lo := 0) (hi := 3) fun x hx => by
    obtain ⟨n, hn, rfl⟩ := List.mem_map.mp hx
    have := lag_bd g (v.pm n hn)
    omega
  rw [List.length_map] at this
  omega
theorem sumLen_bd {z ks sp ss nm h p t} (g : goodM z ks sp ss nm) (v : vOk nm h p t) : 0 ≤ sumLen ks ss sp p.cps.toList ∧ sumLen ks ss sp p.cps.toList ≤ 1040 := by
  have pl := v.pl
  have pL := Vl.len_list (z := p)
  unfold sumLen
  have := sum_bd (l := (p.cps.toList.zip (rotL p.cps.toList)).map fun q : Nat × Nat => bodyOf ks (one q.1) + seatOf ss sp (one q.1) (one q.2)) (lo := 0) (hi := 52) fun x hx => by
    obtain ⟨q, hq, rfl⟩ := List.mem_map.mp hx
    have h1 := body_bd g (v.pm q.1 (List.of_mem_zip hq).1)
    have h2 := seat_bd g (one q.1) (one q.2)
    omega
  rw [List.length_map, List.length_zip] at this
  omega
/-! ### File.delay_of, File.length_of -/
theorem si_delay : FnScope ["self", "n"] ["self", "n"] (defScope i_delay) := ⟨rfl, rfl, rfl, by decide +kernel, rfl, by decide +kernel, by decide +kernel⟩
theorem nv_si_delay : NmOk ["self", "n"] (defScope i_delay) 2 := ⟨by decide +kernel⟩
theorem si_len : FnScope ["self", "n"] ["self", "n"] (defScope i_len) := ⟨rfl, rfl, rfl, by decide +kernel, rfl, by decide +kernel, by decide +kernel⟩
theorem nv_si_len : NmOk ["self", "n"] (defScope i_len) 2 := ⟨by decide +kernel⟩
@[irreducible] def fs_numof (f : List Kd → List Se → Int → Str → Str → Str → Int → D) : FS := fun ds rt ex => ∃ z ks sp ss nm h p t d, ds = [fil (mak z ks sp ss nm) h p t, d] ∧ goodM z ks sp ss nm ∧ vOk nm h p t ∧ h.length + p.length + t.length ≤ 60 ∧ dat d = true ∧ (numB d = false → ex (xNum d)) ∧
  (∀ n : Nat, 1 ≤ n → d = .int (n : Nat) → rt (f ks ss sp h p t (n : Nat)))
theorem ok_delayof {f : Addr} {fd : FuncData} (C : FlC K (cls 30)) (Cl : ClC K (cls 27)) (d1 : Df P w K mg base cls "check_number" 3 ["n"] fs_cnum) (dc : Dm P w K mg base cls 30 "column_of" 5 ["self", "n"] fs_colof) (dp : Dp P w K mg base cls 27 "delay_row" 5 (fs_crow fun ks _ _ l => intsT (delayL ks l)))
    (dq : Dm P w K mg base cls 30 "delay_of_part" 5 ["self"] (fs_filp fun ks _ _ p => .int (sumLag ks p.cps.toList))) (F : Fun K "delay_of" "File.delay_of" i_delay f fd) :
    FnOk P w K mg base (L2N.CX P w) 7 f fd ["self", "n"] (spOf cls (fs_numof fun ks _ _ h p t n => .int (delT ks (grp h p t 1).cps.toList + (n - 1) * sumLag ks p.cps.toList))) := by
  have hV := nv_si_delay
  refine def_ok F si_delay (fun ds rt ex h => ?_) (fun cdv A outer s H E W R ds rt ex hr h => ?_)
  · unfold fs_numof at h
    obtain ⟨_, _, _, _, _, _, _, _, _, rfl, _⟩ := h
    rfl
  · unfold fs_numof at h
    obtain ⟨z, ks, sp, ss, nm, h, p, t, d, rfl, gm, gv, l60, hd, k1, k2⟩ := h
    refine wss_cons (ws_expr (we_call d1 (hr.mono (by decide)) ?_))
    repeat walk_at "v"
    refine ⟨d, rfl, hd, fun e => ?_, k1⟩
    obtain ⟨i, rfl⟩ : ∃ i, d = .int i := by
      cases d <;> first | exact ⟨_, rfl⟩ | exact Bool.noConfusion e
    have e := of_decide_eq_true (show decide (1 ≤ i) = true from e)
    obtain ⟨n, rfl⟩ : ∃ n : Nat, i = (n : Int) := ⟨i.toNat, by omega⟩
    have k2 := k2 n (by omega) rfl
    have bd := sumLag_bd gm gv
    refine wss_one (ws_ret (we_add (we_ix (we_prop Cl.cl dp (hr.mono (by decide)) (we_meth C.cl dc (hr.mono (by decide)) ?_)))))
    repeat walk_at "v"
    refine ⟨_, rfl, rfl, ?_⟩
    repeat walk_at "v"
    unfold fs_colof
    refine was_nil ⟨z, ks, sp, ss, nm, h, p, t, .int 1, rfl, gm, gv, rfl, fun e => (by cases e), fun m m1 em => ?_⟩
    have em : m = 1 := by have := D.int.inj em; omega
    subst em
    refine ⟨fun e => by omega, fun _ => ?_⟩
    have gg := grp_good gv (n := 1) (by decide) (by omega)
    refine ⟨_, rfl, z, ks, sp, ss, nm, _, rfl, gm, gg, ?_⟩
    refine we_neg ?_
    repeat walk_at "v"
    refine ⟨1, rfl, -1, .int (delT ks (grp h p t 1).cps.toList), rfl, sums_last _ _, ?_⟩
    refine we_mul (we_sub ?_)
    repeat walk_at "v"
    refine ⟨_, _, rfl, rfl, ?_⟩
    refine we_meth0 C.cl dq (hr.mono (by decide)) ?_
    repeat walk_at "v"
    refine ⟨_, rfl, rfl, ?_⟩
    refine ⟨z, ks, sp, ss, nm, h, p, t, rfl, gm, gv, ?_⟩
    exact ⟨_, _, rfl, rfl, mul_r (by omega) (by omega), _, _, rfl, rfl, k2⟩
theorem ok_lengthof {f : Addr} {fd : FuncData} (C : FlC K (cls 30)) (Cl : ClC K (cls 27)) (d1 : Df P w K mg base cls "check_number" 3 ["n"] fs_cnum) (dc : Dm P w K mg base cls 30 "column_of" 5 ["self", "n"] fs_colof) (dp : Dp P w K mg base cls 27 "rest_length" 7 (fs_crow fun ks ss sp l => .int (restOf ks ss sp l)))
    (dq : Dm P w K mg base cls 30 "length_of_part" 5 ["self"] (fs_filp fun ks ss sp p => .int (sumLen ks ss sp p.cps.toList))) (F : Fun K "length_of" "File.length_of" i_len f fd) :
    FnOk P w K mg base (L2N.CX P w) 9 f fd ["self", "n"] (spOf cls (fs_numof fun ks ss sp h p t n => .int (restOf ks ss sp (grp h p t 1).cps.toList + (n - 1) * sumLen ks ss sp p.cps.toList))) := by
  have hV := nv_si_len
  refine def_ok F si_len (fun ds rt ex h => ?_) (fun cdv A outer s H E W R ds rt ex hr h => ?_)
  · unfold fs_numof at h
    obtain ⟨_, _, _, _, _, _, _, _, _, rfl, _⟩ := h
    rfl
  · unfold fs_numof at h
    obtain ⟨z, ks, sp, ss, nm, h, p, t, d, rfl, gm, gv, l60, hd, k1, k2⟩ := h
    refine wss_cons (ws_expr (we_call d1 (hr.mono (by decide)) ?_))
    repeat walk_at "v"
    refine ⟨d, rfl, hd, fun e => ?_, k1⟩
    obtain ⟨i, rfl⟩ : ∃ i, d = .int i := by
      cases d <;> first | exact ⟨_, rfl⟩ | exact Bool.noConfusion e
    have e := of_decide_eq_true (show decide (1 ≤ i) = true from e)
    obtain ⟨n, rfl⟩ : ∃ n : Nat, i = (n : Int) := ⟨i.toNat, by omega⟩
    have k2 := k2 n (by omega) rfl
    have bd := sumLen_bd gm gv
    refine wss_one (ws_ret (we_add (we_prop Cl.cl dp (hr.mono (by decide)) (we_meth C.cl dc (hr.mono (by decide)) ?_))))
    repeat walk_at "v"
    refine ⟨_, rfl, rfl, ?_⟩
    repeat walk_at "v"
    unfold fs_colof
    refine was_nil ⟨z, ks, sp, ss, nm, h, p, t, .int 1, rfl, gm, gv, rfl, fun e => (by cases e), fun m m1 em => ?_⟩
    have em : m = 1 := by have := D.int.inj em; omega
    subst em
    refine ⟨fun e => by omega, fun _ => ?_⟩
    have gg := grp_good gv (n := 1) (by decide) (by omega)
    refine ⟨_, rfl, z, ks, sp, ss, nm, _, rfl, gm, gg, ?_⟩
    refine we_mul (we_sub ?_)
    repeat walk_at "v"
    refine ⟨_, _, rfl, rfl, ?_⟩
    refine we_meth0 C.cl dq (hr.mono (by decide)) ?_
    repeat walk_at "v"
    refine ⟨_, rfl, rfl, ?_⟩
    refine ⟨z, ks, sp, ss, nm, h, p, t, rfl, gm, gv, ?_⟩
    exact ⟨_, _, rfl, rfl, mul_r (by omega) (by omega), _, _, rfl, rfl, k2⟩
end
section
set_option maxHeartbeats 16000000
open PySem PySem.Spec PyProof.Rows L2 Vl
/-! ### one more part -/
def adj (f : Nat × Nat → Int) : List Nat → Int
  | [] => 0
  | [_] => 0
  | a :: b :: l => f (a, b) + adj f (b :: l)
theorem adj_zip (f : Nat × Nat → Int) : ∀ l : List Nat, ((l.zip l.tail).map f).sum = adj f l
  | [] => rfl
  | [a] => rfl
  | a :: b :: l => by
    have := adj_zip f (b :: l)
    show (((a, b) :: (b :: l).zip l).map f).sum = f (a, b) + adj f (b :: l)
    rw [List.map_cons, List.sum_cons]
    exact congrArg _ this
theorem adj_app (f : Nat × Nat → Int) : ∀ (xs : List Nat) (x y : Nat) (ys : List Nat), xs.getLast? = some x → adj f (xs ++ y :: ys) = adj f xs + f (x, y) + adj f (y :: ys)
  | [], x, y, ys, h => by cases h
  | [a], x, y, ys, h => by
    cases h
    show f (a, y) + adj f (y :: ys) = 0 + f (a, y) + adj f (y :: ys)
    omega
  | a :: b :: l, x, y, ys, h => by
    have := adj_app f (b :: l) x y ys (by simpa using h)
    show f (a, b) + adj f ((b :: l) ++ y :: ys) = f (a, b) + adj f (b :: l) + f (x, y) + adj f (y :: ys)
    omega
theorem adj_rot (f : Nat × Nat → Int) : ∀ (p : List Nat) (x y : Nat), p.getLast? = some x → ((p.zip (p.tail ++ [y])).map f).sum = adj f p + f (x, y)
  | [], x, y, h => by cases h
  | [a], x, y, h => by
    cases h
    show f (a, y) + 0 = 0 + f (a, y)
    omega
  | a :: b :: l, x, y, h => by
    have := adj_rot f (b :: l) x y (by simpa using h)
    show (((a, b) :: (b :: l).zip (l ++ [y])).map f).sum = f (a, b) + adj f (b :: l) + f (x, y)
    rw [List.map_cons, List.sum_cons]
    have e : (((b :: l).zip (l ++ [y])).map f).sum = adj f (b :: l) + f (x, y) := this
    rw [e]
    omega
theorem adj_more (f : Nat × Nat → Int) {p : List Nat} (hp : p ≠ []) (h t : List Nat) : adj f (h ++ (p ++ (p ++ t))) = adj f (h ++ (p ++ t)) + ((p.zip (rotL p)).map f).sum := by
  cases p with
  | nil => exact absurd rfl hp
  | cons y ys =>
    obtain ⟨x, hx⟩ : ∃ x, (y :: ys).getLast? = some x := ⟨_, List.getLast?_eq_some_getLast (by simp)⟩
    have e1 : adj f ((y :: ys) ++ (y :: (ys ++ t))) = adj f (y :: ys) + f (x, y) + adj f (y :: (ys ++ t)) := adj_app f _ x y _ hx
    have e2 : ((((y :: ys).zip (rotL (y :: ys)))).map f).sum = adj f (y :: ys) + f (x, y) := adj_rot f (y :: ys) x y hx
    rw [e2]
    cases hh : h.getLast? with
    | none =>
      rw [List.getLast?_eq_none_iff.mp hh]
      show adj f ((y :: ys) ++ (y :: (ys ++ t))) = adj f (y :: (ys ++ t)) + _
      rw [e1]
      omega
    | some u =>
      have e3 : adj f (h ++ y :: (ys ++ (y :: (ys ++ t)))) = adj f h + f (u, y) + adj f (y :: (ys ++ (y :: (ys ++ t)))) := adj_app f _ u y _ hh
      have e4 : adj f (h ++ y :: (ys ++ t)) = adj f h + f (u, y) + adj f (y :: (ys ++ t)) := adj_app f _ u y _ hh
      show adj f (h ++ y :: (ys ++ (y :: (ys ++ t)))) = adj f (h ++ y :: (ys ++ t)) + _
      rw [e3, e4]
      have e5 : adj f (y :: (ys ++ (y :: (ys ++ t)))) = adj f (y :: ys) + f (x, y) + adj f (y :: (ys ++ t)) := e1
      rw [e5]
      omega
theorem mulOne (p : Str) : Txt.mul p ((1 : Nat) : Int) = p := by
  unfold Txt.mul
  rw [if_neg (by decide), if_pos (by simp)]
theorem mulTwo (p : Str) : (Txt.mul p ((2 : Nat) : Int)).cps.toList = p.cps.toList ++ p.cps.toList := by
  unfold Txt.mul
  rw [if_neg (by decide)]
  by_cases h : p.length = 0
  · rw [if_pos (by simp [h])]
    have : p.cps.toList = [] := List.length_eq_zero_iff.mp h
    rw [this]
    rfl
  · rw [if_neg (by simp [h])]
    show (List.foldl (fun x1 x2 => x1 ++ x2) #[] (List.replicate 2 p.cps)).toList = _
    simp [List.replicate]
theorem grp1 (h p t : Str) : (grp h p t 1).cps.toList = h.cps.toList ++ (p.cps.toList ++ t.cps.toList) := by
  unfold grp
  rw [app_list, app_list, mulOne, List.append_assoc]
theorem grp2 (h p t : Str) : (grp h p t 2).cps.toList = h.cps.toList ++ (p.cps.toList ++ (p.cps.toList ++ t.cps.toList)) := by
  unfold grp
  rw [app_list, app_list, mulTwo, List.append_assoc, List.append_assoc]
theorem last_more {p : List Nat} (hp : p ≠ []) (h t : List Nat) : (h ++ (p ++ (p ++ t))).getLast? = (h ++ (p ++ t)).getLast? := by
  obtain ⟨x, hx⟩ : ∃ x, (p ++ t).getLast? = some x := ⟨_, List.getLast?_eq_some_getLast (by simp [hp])⟩
  rw [List.getLast?_append, List.getLast?_append (l := p) (l' := p ++ t), hx, List.getLast?_append (l := h) (l' := p ++ t), hx]
  rfl
theorem delT_sum (ks : List Kd) {l : List Nat} {x : Nat} (hx : l.getLast? = some x) : delT ks l = (l.map fun n => (kindOf ks (one n)).1).sum - (kindOf ks (one x)).1 := by
  have e : l = l.dropLast ++ [x] := by
    have hl : l ≠ [] := fun e => by rw [e] at hx; cases hx
    have := List.dropLast_concat_getLast hl
    rw [List.getLast?_eq_some_getLast hl] at hx
    rw [Option.some.inj hx] at this
    exact this.symm
  unfold delT lagsL
  rw [List.take_of_length_le (by rw [List.length_map, List.length_dropLast]; exact Nat.le_refl _)]
  have e2 : (l.map fun n => (kindOf ks (one n)).1).sum = ((l.dropLast ++ [x]).map fun n => (kindOf ks (one n)).1).sum := by rw [← e]
  rw [e2, List.map_append, List.sum_append]
  simp
theorem delT_more (ks : List Kd) {h p t : Str} (p1 : 1 ≤ p.length) : delT ks (grp h p t 2).cps.toList = delT ks (grp h p t 1).cps.toList + sumLag ks p.cps.toList := by
  have hp : p.cps.toList ≠ [] := fun e => by have := Vl.len_list (z := p); rw [e] at this; simp at this; omega
  rw [grp1, grp2]
  obtain ⟨x, hx⟩ : ∃ x, (h.cps.toList ++ (p.cps.toList ++ t.cps.toList)).getLast? = some x := ⟨_, List.getLast?_eq_some_getLast (by simp [hp])⟩
  rw [delT_sum ks hx, delT_sum ks ((last_more hp _ _).trans hx)]
  unfold sumLag
  simp only [List.map_append, List.sum_append]
  omega
theorem neg_sum (f : Nat × Nat → Int) : ∀ l : List (Nat × Nat), (l.map fun q => - f q).sum = - (l.map f).sum
  | [] => rfl
  | q :: l => by
    have := neg_sum f l
    rw [List.map_cons, List.sum_cons, List.map_cons, List.sum_cons, this]
    omega
theorem restOf_more (ks : List Kd) (ss : List Se) (sp : Int) {h p t : Str} (p1 : 1 ≤ p.length) : restOf ks ss sp (grp h p t 2).cps.toList = restOf ks ss sp (grp h p t 1).cps.toList + sumLen ks ss sp p.cps.toList := by
  have hp : p.cps.toList ≠ [] := fun e => by have := Vl.len_list (z := p); rw [e] at this; simp at this; omega
  have st : ∀ l, (stepL ks ss sp l).sum = - adj (fun q => bodyOf ks (one q.1) + seatOf ss sp (one q.1) (one q.2)) l := fun l => by
    rw [← adj_zip, ← neg_sum]
    unfold stepL
    congr 1
    apply List.map_congr_left
    intro q _
    omega
  unfold restOf
  rw [st, st, grp1, grp2, adj_more _ hp, List.getLastD_eq_getLast?, List.getLastD_eq_getLast?, last_more hp]
  unfold sumLen
  omega
end
section
set_option maxHeartbeats 16000000
open PySem PySem.Spec PyProof.Rows L2 Vl
variable {cls : Nat → Addr} {P : Program} {w : World} {K : PySem.W.Frag} {mg : Str → Option Value} {base : Heap}
/-- how it is shown -/
abbrev shD (d : D) : Str := (pyOf d).shown
structure repD (d : D) : Prop where
  ok : repOk d
  cd : codeOk (shD d)
theorem int_text {i : Int} (h : i.natAbs ≤ 10 ^ 39) : (Str.ofString (toString i)).length ≤ 41 := by
  rw [PyProof.Rows.ofString_len]
  have key : ∀ n : Nat, n ≤ 10 ^ 39 → (toString n).length ≤ 40 := fun n hn => by
    rw [Nat.toString_eq_ofList_toDigits, String.length_ofList]
    exact PyProof.Rows.digits10_le (by decide) (Nat.lt_of_le_of_lt hn (by decide))
  cases i with
  | ofNat n => exact Nat.le_trans (key n h) (by decide)
  | negSucc n =>
    show ("-" ++ toString (n + 1)).length ≤ 41
    rw [String.length_append]
    have := key (n + 1) h
    show 1 + _ ≤ 41
    omega
theorem code_ofString (s : String) (h : s.length ≤ 1000) : codeOk (Str.ofString s) := ⟨by rw [PyProof.Rows.ofString_len]; exact h, fun n hn => by
  rw [PyProof.Rows.signs_ofString] at hn
  obtain ⟨c, _, rfl⟩ := List.mem_map.mp hn
  have := c.valid
  show c.val.toNat < 0x110000
  rcases this with h | ⟨_, h⟩
  · have : c.val.toNat < 0xd800 := h
    omega
  · exact h⟩
theorem log_lt {n : Nat} (h : n ≤ 10 ^ 39) : n.log2 < 1920 := by
  by_cases h0 : n = 0
  · subst h0
    decide
  · rw [Nat.log2_lt h0]
    exact Nat.lt_of_le_of_lt h (Nat.lt_of_lt_of_le (show 10 ^ 39 < 2 ^ 200 by decide) (Nat.pow_le_pow_right (by decide) (by decide)))
theorem rep_int {i : Int} (h : i.natAbs ≤ 10 ^ 39) : repD (.int i) := by
  have l := int_text h
  have e : shD (.int i) = Str.ofString (toString i) := rfl
  refine ⟨⟨okX_atom rfl, ?_, rfl, by show 0 ≤ 40; omega, fun j e => ?_, by show (shD (.int i)).length ≤ _; rw [e, sizeLine_eq]; omega⟩, ?_⟩
  · show PyData.showable (.int i) = true
    exact decide_eq_true (log_lt h)
  · cases e
    exact log_lt h
  · rw [e]
    refine code_ofString _ ?_
    rw [PyProof.Rows.ofString_len] at l
    omega
theorem rep_bl (b : Bool) : repD (.bl b) := by
  cases b <;> exact ⟨⟨okX_atom rfl, by decide +kernel, rfl, by decide +kernel, fun j e => (by cases e), by decide +kernel⟩, by decide +kernel, by decide +kernel⟩
theorem rep_non : repD .non := ⟨⟨okX_atom rfl, by decide +kernel, rfl, by decide +kernel, fun j e => (by cases e), by decide +kernel⟩, by decide +kernel, by decide +kernel⟩
theorem rep_str {x : Str} (h1 : codeOk (reprText x)) (hx : x.length ≤ 1000) : repD (.str x) := ⟨⟨okX_atom (decide_eq_true (by omega)), rfl, rfl, by show 0 ≤ 40; omega, fun j e => (by cases e), by show (reprText x).length ≤ _; rw [sizeLine_eq]; have := h1.1; omega⟩, h1⟩
theorem rep_one (n : Int) (hn : n = 1 ∨ n = 2) : repD (.tup [.int n]) ∧ repD (.lst [.int n]) := by
  rcases hn with rfl | rfl <;> refine ⟨⟨⟨⟨1, .inr ⟨_, .inr rfl, by show 1 ≤ _; omega, fun x hx => by rw [List.mem_singleton.mp hx]; exact okD_atom rfl⟩⟩, by decide +kernel, by decide +kernel, by decide +kernel, fun j e => (by unfold pyOf at e; cases e), by decide +kernel⟩, by decide +kernel, by decide +kernel⟩, ⟨⟨⟨1, .inr ⟨_, .inl rfl, by show 1 ≤ _; omega, fun x hx => by rw [List.mem_singleton.mp hx]; exact okD_atom rfl⟩⟩, by decide +kernel, by decide +kernel, by decide +kernel, fun j e => (by unfold pyOf at e; cases e), by decide +kernel⟩, by decide +kernel, by decide +kernel⟩⟩
/-! ### _law_refusal -/
abbrev s_refu : Stmt := top 70
theorem sc_refu : FnScope ["_law_error", "_law_classes"] ["_law_error"] (defScope s_refu) := ⟨rfl, rfl, rfl, by decide +kernel, rfl, by decide +kernel, by decide +kernel⟩
abbrev errs4 : List Nat := [17, 10, 9]
def errN4 : Nat → Str
  | 17 => "BadFile"
  | 10 => "BadNumber"
  | _ => "BadColumn"
def errF4 : Nat → Str
  | 17 => "word"
  | _ => "number"
structure ErG4 (K : PySem.W.Frag) (mg : Str → Option Value) (cls : Nat → Addr) : Prop where
  n17 : mg "BadFile" = some (.ref (cls 17))
  n10 : mg "BadNumber" = some (.ref (cls 10))
  n9 : mg "BadColumn" = some (.ref (cls 9))
  n1 : mg "TailError" = some (.ref (cls 1))
  ec : ∀ k ∈ errs4, ExcC K (cls k)
  xf : ∀ k ∈ errs4, XfC K (cls k)
  kk : ∀ i ∈ errs4, ∀ j ∈ errs4, PySem.W.kitOne K (.ref (cls i)) (.ref (cls j)) = some (i == j)
  ff : ∀ k ∈ errs4, PySem.W.findIn K (.ref (cls k)) (errF4 k) = some none
  ex : ∀ k ∈ errs4, PySem.W.exmOne K (.ref (cls k)) (.ref (cls 1)) = some true
abbrev errY4 (k : Nat) (d : D) : Xd := ⟨k, [(errF4 k, d)]⟩
abbrev toldE4 (k : Nat) (d : D) : D := .tup [.str (errN4 k), .str (shD d)]
def fx_refu : FXd := fun x rt => ∃ k d, k ∈ errs4 ∧ x = errY4 k d ∧ repD d ∧ rt (toldE4 k d)
section
variable {c : Cy cls} {ρ : Rho}
theorem wt_eqDu {a b : Expr} {pos : Pos} {P : Bool → Prop} {ex : Xd → Prop} (hu : c.X.A.units + 64 < cLine) (h : WE c a ρ (fun x => WE c b ρ (fun y => eqOk x ∧ eqOk y ∧ BP P (.bl (eqB x y))) ex) ex) : WT c (.Compare a [.Eq] [b] pos) ρ P ex :=
  wt_bin (pt_cmpR (op_eqD hu) (peU c a) (peU c b) (nomark _)) opd_eqD h
/-- isinstance(_law_error, a class) in the slot 0 -/
theorem fault_is4 {b : Expr} {pp px pos : Pos} {a dd : Addr} {k : Nat} {d : D} {P : D → Prop} {ex : Xd → Prop} (nb : NB c.X.mg) (T : ErG4 c.X.K c.X.mg cls) (hk : k ∈ errs4) (hx : HX c (a, dd, errY4 k d)) (hN : c.X.N[0]? = some ("_law_error" : Str)) (hρ : ρ[0]? = some (some (.exc (a, dd, errY4 k d))))
    (hv : Vis c.X.env.scope "_law_error") (hg : Gl c.X "isinstance") (h : WE c b ρ (fun t => ∃ j ∈ errs4, t = .cl j ∧ P (.bl (k == j))) ex)
    (he : starEach [.Name "_law_error" px, b] c.X.env = (false, eval (.Name "_law_error" px) c.X.env) :: starEach [b] c.X.env := by rfl) (hs2 : starEach [b] c.X.env = (false, eval b c.X.env) :: starEach [] c.X.env := by rfl) (hpl : (backTo pos (starEach [b] c.X.env)).any (·.1) = false := by rfl) :
    WE c (.Call (.Name "isinstance" pp) [.Name "_law_error" px, b] [] pos) ρ P ex := by
  have C := T.ec k hk
  refine we_xisi (i := 0) (e := (a, dd, errY4 k d)) nb hx C hN hρ (WE.mono h fun t ht => ?_) hv (hp := pe_callB (call_xisi hx C) hg (nb _ (by decide)) (by decide +kernel) (pa_cons (pe_var hN hv) (pa_cons (peU _ _) pa_nil hs2) he) (by decide) (by decide) he hpl)
  obtain ⟨j, hj, e, hp⟩ := ht
  subst e
  exact ⟨_, _, rfl, T.kk k hk j hj, hp⟩
end
theorem bl3_ok (a b c' : Bool) : eqOk (.lst [.bl a, .bl b, .bl c']) := ⟨⟨1, .inr ⟨_, .inl rfl, by show 3 ≤ _; omega, fun x hx => by
  simp only [List.mem_cons, List.not_mem_nil, or_false] at hx
  rcases hx with rfl | rfl | rfl <;> exact okD_atom rfl⟩⟩, by cases a <;> cases b <;> cases c' <;> decide +kernel⟩
theorem ok_refu {f : Addr} {fd : FuncData} (nb : NB mg) (T : ErG4 K mg cls) (F : Fun K "_law_refusal" "_law_refusal" s_refu f fd) : FnPG P w K mg base (L2N.CX P w) 1 f fd ["_law_error"] (spTold cls fx_refu) := by
  refine told_okG F sc_refu fun cdv A outer s H E W R p dd xx rt hf hG hu hx => ?_
  obtain ⟨k, d, hk, rfl, hd, hr⟩ := hf
  have hN := sc_refu.nd
  refine wss_cons (ws_set 1 hN rfl (we_lst (fault_is4 nb T hk hx rfl rfl (Or.inl rfl) rfl (we_gcl T.n17 ⟨17, by decide, rfl, ?_⟩))))
  refine fault_is4 nb T hk hx rfl rfl (Or.inl rfl) rfl (we_gcl T.n10 ⟨10, by decide, rfl, ?_⟩)
  refine fault_is4 nb T hk hx rfl rfl (Or.inl rfl) rfl (we_gcl T.n9 ⟨9, by decide, rfl, ?_⟩)
  have bq : ∀ a b c' a' b' c'' : Bool, eqB (.lst [.bl a, .bl b, .bl c']) (.lst [.bl a', .bl b', .bl c'']) = (a == a' && (b == b' && c' == c'')) := by
    intro a b c' a' b' c''
    cases a <;> cases b <;> cases c' <;> cases a' <;> cases b' <;> cases c'' <;> decide +kernel
  have cs : k = 17 ∨ k = 10 ∨ k = 9 := by simpa [errs4] using hk
  refine was_nil ?_
  rcases cs with rfl | rfl | rfl
  · refine wss_cons (ws_if (wt_eqDu hu ?_))
    repeat walk_at "v"
    refine ⟨bl3_ok _ _ _, bl3_ok _ _ _, ?_⟩
    rw [bq]
    refine ⟨_, rfl, fun _ => ?_, fun e => by cases e⟩
    refine wss_one (ws_ret (we_tup (we_str (we_repr nb hG hu (we_xfld (i := 0) (e := (p.1, dd, errY4 17 d)) hx (T.xf 17 hk) (T.ff 17 hk) rfl rfl rfl ⟨hd.ok, ?_⟩)))))
    exact was_nil hr
  · refine wss_cons (ws_if (wt_eqDu hu ?_))
    repeat walk_at "v"
    refine ⟨bl3_ok _ _ _, bl3_ok _ _ _, ?_⟩
    rw [bq]
    refine ⟨_, rfl, fun e => (by cases e), fun _ => wss_nil ?_⟩
    refine wss_cons (ws_if (wt_eqDu hu ?_))
    repeat walk_at "v"
    refine ⟨bl3_ok _ _ _, bl3_ok _ _ _, ?_⟩
    rw [bq]
    refine ⟨_, rfl, fun _ => ?_, fun e => by cases e⟩
    refine wss_one (ws_ret (we_tup (we_str (we_repr nb hG hu (we_xfld (i := 0) (e := (p.1, dd, errY4 10 d)) hx (T.xf 10 hk) (T.ff 10 hk) rfl rfl rfl ⟨hd.ok, ?_⟩)))))
    exact was_nil hr
  · refine wss_cons (ws_if (wt_eqDu hu ?_))
    repeat walk_at "v"
    refine ⟨bl3_ok _ _ _, bl3_ok _ _ _, ?_⟩
    rw [bq]
    refine ⟨_, rfl, fun e => (by cases e), fun _ => wss_nil ?_⟩
    refine wss_cons (ws_if (wt_eqDu hu ?_))
    repeat walk_at "v"
    refine ⟨bl3_ok _ _ _, bl3_ok _ _ _, ?_⟩
    rw [bq]
    refine ⟨_, rfl, fun e => (by cases e), fun _ => wss_nil ?_⟩
    refine wss_cons (ws_if (wt_eqDu hu ?_))
    repeat walk_at "v"
    refine ⟨bl3_ok _ _ _, bl3_ok _ _ _, ?_⟩
    rw [bq]
    refine ⟨_, rfl, fun _ => ?_, fun e => by cases e⟩
    refine wss_one (ws_ret (we_tup (we_str (we_repr nb hG hu (we_xfld (i := 0) (e := (p.1, dd, errY4 9 d)) hx (T.xf 9 hk) (T.ff 9 hk) rfl rfl rfl ⟨hd.ok, ?_⟩)))))
    exact was_nil hr
end
section
set_option maxHeartbeats 16000000
open PySem PySem.Spec PyProof.Rows L2 Vl
variable {cls : Nat → Addr} {P : Program} {w : World} {K : PySem.W.Frag} {mg : Str → Option Value} {base : Heap}
/-! ### _law_made -/
abbrev s_made : Stmt := top 71
abbrev madeN : List Str := ["_law_told", "_law_values", "_law_error"]
theorem sc_made : FnScope madeN ["_law_told", "_law_values"] (defScope s_made) := ⟨rfl, rfl, rfl, by decide +kernel, rfl, by decide +kernel, by decide +kernel⟩
theorem nv_sc_made : NmOk madeN (defScope s_made) 3 := ⟨by decide +kernel⟩
@[irreducible] def fs_madeF : FS := fun ds rt _ => ∃ z ks sp ss nm dh dp dt vs, ds = [mak z ks sp ss nm, vs] ∧ (vs = .tup [dh, dp, dt] ∨ vs = .lst [dh, dp, dt]) ∧ goodM z ks sp ss nm ∧ txtOk dh ∧ txtOk dp ∧ txtOk dt ∧ (∀ w, firstF nm dh dp dt = some w → rt (toldE4 17 (.str w))) ∧
  (∀ h p t, dh = .str h → dp = .str p → dt = .str t → vOk nm h p t → rt (fil (mak z ks sp ss nm) h p t))
theorem rep_word {nm : Str} {dh dp dt : D} {w : Str} (h : firstF nm dh dp dt = some w) : repD (.str w) := by
  unfold firstF at h
  split at h
  · cases h
    exact rep_str ⟨by decide +kernel, by decide +kernel⟩ (by decide +kernel)
  · split at h
    · cases h
      exact rep_str ⟨by decide +kernel, by decide +kernel⟩ (by decide +kernel)
    · split at h
      · cases h
        exact rep_str ⟨by decide +kernel, by decide +kernel⟩ (by decide +kernel)
      · cases h
theorem ok_made28 {f : Addr} {fd : FuncData} (T : ErG4 K mg cls) (dk : Dk P w K mg base cls "File" 30 3 ["make", "head", "part", "tail"] fi_file) (dR : DhG P w K mg base cls "_law_refusal" fx_refu) (F : Fun K "_law_made" "_law_made" s_made f fd) :
    FnG P w K mg base (L2N.CX P w) 6 f fd ["_law_told", "_law_values"] (spOf cls fs_madeF) := by
  have hV := nv_sc_made
  refine def_okG F sc_made (fun ds rt ex h => ?_) (fun cdv A outer s H E W R ds rt ex hr hG h => ?_)
  · unfold fs_madeF at h
    obtain ⟨_, _, _, _, _, _, _, _, _, rfl, _⟩ := h
    rfl
  · unfold fs_madeF at h
    obtain ⟨z, ks, sp, ss, nm, dh, dp, dt, vs, rfl, hv, gM, t1, t2, t3, k1, k2⟩ := h
    have hN := sc_made.nd
    have ix : ∀ (i : Nat) (x : D), [dh, dp, dt][i]? = some x → itemD vs (i : Nat) = some x := fun i x e => by
      rcases hv with rfl | rfl
      · exact item_tup e
      · exact item_lst e
    refine wss_one (ws_try 2 (kx := 1) hN rfl T.n1 fun pn xe po => ?_)
    refine wss_one (ws_ret (we_make dk (hr.mono (by decide)) ?_))
    repeat walk_at "v"
    refine we_ix ?_
    repeat walk_at "v"
    refine ⟨0, _, rfl, ix 0 _ rfl, ?_⟩
    refine we_ix ?_
    repeat walk_at "v"
    refine ⟨1, _, rfl, ix 1 _ rfl, ?_⟩
    refine we_ix ?_
    repeat walk_at "v"
    refine ⟨2, _, rfl, ix 2 _ rfl, ?_⟩
    unfold fi_file
    refine was_nil ⟨z, ks, sp, ss, nm, dh, dp, dt, rfl, gM, t1, t2, t3, fun w hw => ?_, k2⟩
    exact ⟨true, T.ex 17 (by decide), fun z => Bool.noConfusion z, fun _ a dd oe pn' hx => wss_one (ws_ret (we_toldG (i := 2) hx hG dR (L2H.roomH_mark (hr.mono (by decide)) _) rfl rfl ⟨17, _, by decide, rfl, rep_word hw, k1 w hw⟩))⟩
/-! ### _law_asked -/
abbrev s_asked : Stmt := top 72
abbrev askedN : List Str := ["_law_thing", "_law_which", "_law_n", "_law_error"]
theorem sc_asked : FnScope askedN ["_law_thing", "_law_which", "_law_n"] (defScope s_asked) := ⟨rfl, rfl, rfl, by decide +kernel, rfl, by decide +kernel, by decide +kernel⟩
theorem nv_sc_asked : NmOk askedN (defScope s_asked) 4 := ⟨by decide +kernel⟩
/-- the answers -/
abbrev lateOf (ks : List Kd) (h p t : Str) (n : Int) : D := .int (delT ks (grp h p t 1).cps.toList + (n - 1) * sumLag ks p.cps.toList)
abbrev longOf (ks : List Kd) (ss : List Se) (sp : Int) (h p t : Str) (n : Int) : D := .int (restOf ks ss sp (grp h p t 1).cps.toList + (n - 1) * sumLen ks ss sp p.cps.toList)
@[irreducible] def fs_askedF : FS := fun ds rt _ => ∃ z ks sp ss nm h p t d, ∃ wh : Nat, ds = [fil (mak z ks sp ss nm) h p t, .int (wh : Nat), d] ∧ wh ≤ 2 ∧ goodM z ks sp ss nm ∧ vOk nm h p t ∧ dat d = true ∧ (numB d = false → repD d ∧ rt (toldE4 10 d)) ∧
  (∀ n : Nat, 1 ≤ n → d = .int (n : Nat) → (wh = 0 → (60 < h.length + n * p.length + t.length → rt (toldE4 9 (.int (-1)))) ∧ (h.length + n * p.length + t.length ≤ 60 → rt (col (mak z ks sp ss nm) (grp h p t n)))) ∧ (wh = 1 → rt (lateOf ks h p t (n : Nat))) ∧ (wh = 2 → rt (longOf ks ss sp h p t (n : Nat))))
theorem ok_asked28 {f : Addr} {fd : FuncData} (T : ErG4 K mg cls) (C : FlC K (cls 30)) (dc : Dm P w K mg base cls 30 "column_of" 5 ["self", "n"] fs_colof) (dd : Dm P w K mg base cls 30 "delay_of" 7 ["self", "n"] (fs_numof fun ks _ _ h p t n => .int (delT ks (grp h p t 1).cps.toList + (n - 1) * sumLag ks p.cps.toList)))
    (dl : Dm P w K mg base cls 30 "length_of" 9 ["self", "n"] (fs_numof fun ks ss sp h p t n => .int (restOf ks ss sp (grp h p t 1).cps.toList + (n - 1) * sumLen ks ss sp p.cps.toList))) (dR : DhG P w K mg base cls "_law_refusal" fx_refu) (F : Fun K "_law_asked" "_law_asked" s_asked f fd) :
    FnG P w K mg base (L2N.CX P w) 11 f fd ["_law_thing", "_law_which", "_law_n"] (spOf cls fs_askedF) := by
  have hV := nv_sc_asked
  refine def_okG F sc_asked (fun ds rt ex h => ?_) (fun cdv A outer s H E W R ds rt ex hr hG h => ?_)
  · unfold fs_askedF at h
    obtain ⟨_, _, _, _, _, _, _, _, _, _, rfl, _⟩ := h
    rfl
  · unfold fs_askedF at h
    obtain ⟨z, ks, sp, ss, nm, h, p, t, d, wh, rfl, w2, gM, gv, hd, k1, k2⟩ := h
    have hN := sc_asked.nd
    have hl := gv.hl
    have pl := gv.pl
    have tl := gv.tl
    refine wss_one (ws_try 3 (kx := 1) hN rfl T.n1 fun pn xe po => ?_)
    refine wss_cons (ws_if (wt_eq ?_))
    repeat walk_at "v"
    refine eq_int ⟨_, rfl, fun e => ?_, fun n0 => wss_nil ?_⟩
    · have e := of_decide_eq_true e
      refine wss_one (ws_ret (we_meth C.cl dc (hr.mono (by decide)) ?_))
      repeat walk_at "v"
      refine ⟨_, rfl, rfl, ?_⟩
      repeat walk_at "v"
      unfold fs_colof
      refine was_nil ⟨z, ks, sp, ss, nm, h, p, t, d, rfl, gM, gv, hd, fun e1 => ?_, fun n n1 en => ⟨fun big => ?_, fun sm => ?_⟩⟩
      · exact ⟨true, T.ex 10 (by decide), fun z => Bool.noConfusion z, fun _ a dd oe pn' hx => wss_one (ws_ret (we_toldG (i := 3) hx hG dR (L2H.roomH_mark (hr.mono (by decide)) _) rfl rfl ⟨10, d, by decide, rfl, (k1 e1).1, (k1 e1).2⟩))⟩
      · exact ⟨true, T.ex 9 (by decide), fun z => Bool.noConfusion z, fun _ a dd oe pn' hx => wss_one (ws_ret (we_toldG (i := 3) hx hG dR (L2H.roomH_mark (hr.mono (by decide)) _) rfl rfl ⟨9, _, by decide, rfl, rep_int (by decide), ((k2 n n1 en).1 (by omega)).1 big⟩))⟩
      · exact ((k2 n n1 en).1 (by omega)).2 sm
    refine wss_cons (ws_if (wt_eq ?_))
    repeat walk_at "v"
    refine eq_int ⟨_, rfl, fun e => ?_, fun n1' => wss_nil ?_⟩
    · have e := of_decide_eq_true e
      refine wss_one (ws_ret (we_meth C.cl dd (hr.mono (by decide)) ?_))
      repeat walk_at "v"
      refine ⟨_, rfl, rfl, ?_⟩
      repeat walk_at "v"
      unfold fs_numof
      refine was_nil ⟨z, ks, sp, ss, nm, h, p, t, d, rfl, gM, gv, by omega, hd, fun e1 => ?_, fun n n1 en => (k2 n n1 en).2.1 (by omega)⟩
      exact ⟨true, T.ex 10 (by decide), fun z => Bool.noConfusion z, fun _ a dd oe pn' hx => wss_one (ws_ret (we_toldG (i := 3) hx hG dR (L2H.roomH_mark (hr.mono (by decide)) _) rfl rfl ⟨10, d, by decide, rfl, (k1 e1).1, (k1 e1).2⟩))⟩
    have n0 := of_decide_eq_false n0
    have n1' := of_decide_eq_false n1'
    refine wss_one (ws_ret (we_meth C.cl dl (hr.mono (by decide)) ?_))
    repeat walk_at "v"
    refine ⟨_, rfl, rfl, ?_⟩
    repeat walk_at "v"
    unfold fs_numof
    refine was_nil ⟨z, ks, sp, ss, nm, h, p, t, d, rfl, gM, gv, by omega, hd, fun e1 => ?_, fun n n1 en => (k2 n n1 en).2.2 (by omega)⟩
    exact ⟨true, T.ex 10 (by decide), fun z => Bool.noConfusion z, fun _ a dd oe pn' hx => wss_one (ws_ret (we_toldG (i := 3) hx hG dR (L2H.roomH_mark (hr.mono (by decide)) _) rfl rfl ⟨10, d, by decide, rfl, (k1 e1).1, (k1 e1).2⟩))⟩
end
section
set_option maxHeartbeats 16000000
open PySem PySem.Spec PyProof.Rows L2 Vl
variable {cls : Nat → Addr} {P : Program} {w : World} {K : PySem.W.Frag} {mg : Str → Option Value} {base : Heap}
/-! ### _law_measures -/
abbrev s_meas : Stmt := top 75
abbrev measN : List Str := ["_law_make_here", "_law_groups", "_law_delays", "_law_places", "_law_lag", "_law_rows"]
theorem sc_meas : FnScope measN ["_law_make_here", "_law_groups"] (defScope s_meas) := ⟨rfl, rfl, rfl, by decide +kernel, rfl, by decide +kernel, by decide +kernel⟩
theorem nv_sc_meas : NmOk measN (defScope s_meas) 6 := ⟨by decide +kernel⟩
def measD (ks : List Kd) (ss : List Se) (sp : Int) (l : List Nat) : D := .tup [intsT (delayL ks l), .int (restOf ks ss sp l)]
def fs_meas : FS := fun ds rt _ => ∃ z ks sp ss g s, ds = [rawD z ks sp ss, .str g] ∧ okKs s ks ∧ goodP ks g ∧ rt (measD ks ss sp g.cps.toList)
theorem ok_meas {f : Addr} {fd : FuncData} (nb : NB mg) (d1 : Df P w K mg base cls "_law_column" 2 ["_law_make_here", "_law_groups"] fs_columnP) (d2 : Df P w K mg base cls "_law_kind" 1 ["_law_make_here", "_law_name"] fs_kind) (F : Fun K "_law_measures" "_law_measures" s_meas f fd) :
    FnOk P w K mg base (L2N.CX P w) 3 f fd ["_law_make_here", "_law_groups"] (spOf cls fs_meas) := by
  have hV := nv_sc_meas
  refine def_ok F sc_meas (fun ds rt ex h => ?_) (fun cdv A outer s H E W R ds rt ex hr h => ?_)
  · obtain ⟨_, _, _, _, _, _, rfl, _⟩ := h
    rfl
  · obtain ⟨z, ks, sp, ss, g, s0, rfl, ok, gl, k⟩ := h
    have hN := sc_meas.nd
    have l1 := gl.l1
    have l60 := gl.l60
    have ne : g.cps.toList ≠ [] := fun e => by have := Vl.len_list (z := g); rw [e] at this; simp at this; omega
    have eg : g.cps.toList.getLast? = some (g.cps.toList.getLastD 0) := by
      rw [List.getLast?_eq_some_getLast ne, List.getLastD_eq_getLast?, List.getLast?_eq_some_getLast ne]
      rfl
    obtain ⟨ra, rc, er⟩ := body_row ok (gl.mem _ (List.mem_of_getLast? eg))
    refine wss_cons (ws_asg (we_call d1 hr ?_))
    repeat walk_at "v"
    refine ⟨z, ks, sp, ss, g, s0, rfl, ok, gl, ?_⟩
    refine wg_tup rfl ⟨_, rfl, rfl, wg_name 2 hN rfl (wg_name 3 hN rfl ?_)⟩
    refine wss_cons (ws_asg (we_call d2 (hr.mono (by decide)) ?_))
    repeat walk_at "v"
    refine we_ix ?_
    repeat walk_at "v"
    refine ⟨1, rfl, -1, .str (one (g.cps.toList.getLastD 0)), rfl, ?_, ?_⟩
    · show (if g.length ≤ sizeLine then (L2.atI g.cps.toList (-1)).map fun n => D.str ⟨#[n]⟩ else none) = _
      rw [if_pos (by rw [sizeLine_eq]; omega), atI_last eg]
      rfl
    refine was_nil ⟨z, ks, sp, ss, _, rfl, ?_⟩
    refine wg_tup rfl ⟨_, rfl, rfl, wg_name 4 hN rfl (wg_name 5 hN rfl ?_)⟩
    refine wss_one (ws_ret (we_tup (we_tupleOf nb ?_)))
    repeat walk_at "v"
    refine ⟨_, .inl rfl, ?_⟩
    refine we_sub (we_ix (we_ix ?_))
    repeat walk_at "v"
    refine ⟨0, rowT (ra, bodyOf ks (one (g.cps.toList.getLastD 0)), rc), rfl, item_tup (i := 0) (by rw [List.getElem?_map, er]; rfl), ?_⟩
    repeat walk_at "v"
    refine ⟨_, _, rfl, item_tup (i := 1) rfl, ?_⟩
    refine we_ix ?_
    repeat walk_at "v"
    refine ⟨1, rfl, -1, _, rfl, sums_last _ _, _, _, rfl, rfl, ?_⟩
    have e : List.take (g.cps.toList.length - 1) (stepL ks ss sp g.cps.toList) = stepL ks ss sp g.cps.toList := List.take_of_length_le (by unfold stepL; rw [List.length_map, zip_tail_len]; exact Nat.le_refl _)
    rw [e]
    exact was_nil k
end
section
set_option maxHeartbeats 16000000
open PySem PySem.Spec PyProof.Rows L2 Vl
variable {cls : Nat → Addr} {P : Program} {w : World} {K : PySem.W.Frag} {mg : Str → Option Value} {base : Heap}
/-! ### _law_column_true -/
abbrev s_ctrue : Stmt := top 76
abbrev ctrueN : List Str := ["_law_make_here", "_law_told", "_law_column_here", "_law_values", "_law_n", "_law_groups", "_law_delays", "_law_length"]
theorem sc_ctrue : FnScope ctrueN ["_law_make_here", "_law_told", "_law_column_here", "_law_values", "_law_n"] (defScope s_ctrue) := ⟨rfl, rfl, rfl, by decide +kernel, rfl, by decide +kernel, by decide +kernel⟩
theorem nv_sc_ctrue : NmOk ctrueN (defScope s_ctrue) 8 := ⟨by decide +kernel⟩
theorem ne_str {i : Str} {P : D → Prop} (h : P (.bl false)) : FNe (.str i) (.str i) P := ⟨.str i, .str i, rfl, rfl, rfl, by simpa using h⟩
theorem goodL_of {z ks sp ss nm g} (gM : goodM z ks sp ss nm) (gG : goodG nm g) : goodP ks g := ⟨gG.l1, by have := gG.l60; omega, fun n hn => (name_of gM (gG.mem n hn)).2⟩
theorem colneg : toldE4 9 (.int (-1)) = .tup [.str "BadColumn", .str "-1"] := by
  have : shD (.int (-1)) = "-1" := by decide +kernel
  show D.tup [.str "BadColumn", .str (shD (.int (-1)))] = _
  rw [this]
theorem col_ok28 {z ks sp ss nm q} (gg : goodG nm q) {rt : List (Str × D) → Prop} {ex : Xd → Prop} (k : rt [("make", mak z ks sp ss nm), ("groups", .str q)]) : fi_col [mak z ks sp ss nm, .str q] rt ex := by
  unfold fi_col
  have l60 := gg.l60
  refine ⟨z, ks, sp, ss, nm, _, rfl, ⟨rfl, fun y e => by cases e; omega⟩, fun y e1 e2 => ?_, fun g e _ => ?_⟩
  · rw [good_misp gg] at e1
    subst e1
    cases e2
  · cases e
    exact k
/-- what is told of the column with n parts -/
def colTold (z : Str) (ks : List Kd) (sp : Int) (ss : List Se) (nm h p t : Str) (n : Nat) : D := if 60 < h.length + n * p.length + t.length then toldE4 9 (.int (-1)) else col (mak z ks sp ss nm) (grp h p t n)
@[irreducible] def fs_ctrue : FS := fun ds rt _ => ∃ z ks sp ss nm h p t, ∃ n : Nat, ds = [rawD z ks sp ss, mak z ks sp ss nm, colTold z ks sp ss nm h p t n, vsT h p t, .int (n : Nat)] ∧ goodM z ks sp ss nm ∧ vOk nm h p t ∧ 1 ≤ n ∧ rt (.bl true)
theorem ok_ctrue {f : Addr} {fd : FuncData} (nb : NB mg) (C : ClC K (cls 27)) (I : MkI K mg "Column" (cls 27)) (cnf : PySem.W.notFirst K (cls 27) (.ref (cls 27)) = true) (IM : InsF K (cls 26)) (mnf : PySem.W.notFirst K (cls 26) (.ref (cls 26)) = true) (dm : Dm P w K mg base cls 26 "__eq__" 1 ["self", "other"] fs_meq) (dce : Dm P w K mg base cls 27 "__eq__" 2 ["self", "other"] fs_ceq) (dk : Dk P w K mg base cls "Column" 27 3 ["make", "groups"] fi_col)
    (dp : Dp P w K mg base cls 27 "delay_row" 5 (fs_crow fun ks _ _ l => intsT (delayL ks l))) (dq : Dp P w K mg base cls 27 "rest_length" 7 (fs_crow fun ks ss sp l => .int (restOf ks ss sp l))) (d1 : Df P w K mg base cls "_law_measures" 3 ["_law_make_here", "_law_groups"] fs_meas) (d2 : Df P w K mg base cls "_law_is_int" 1 ["_law_thing"] fs_is_integer)
    (F : Fun K "_law_column_true" "_law_column_true" s_ctrue f fd) : FnOk P w K mg base (L2N.CX P w) 9 f fd ["_law_make_here", "_law_told", "_law_column_here", "_law_values", "_law_n"] (spOf cls fs_ctrue) := by
  have hV := nv_sc_ctrue
  refine def_ok F sc_ctrue (fun ds rt ex h => ?_) (fun cdv A outer s H E W R ds rt ex hr h => ?_)
  · unfold fs_ctrue at h
    obtain ⟨_, _, _, _, _, _, _, _, _, rfl, _⟩ := h
    rfl
  · unfold fs_ctrue at h
    obtain ⟨z, ks, sp, ss, nm, h, p, t, n, rfl, gM, gv, n1, k⟩ := h
    have hN := sc_ctrue.nd
    have hl := gv.hl
    have pl := gv.pl
    have p1 := gv.p1
    have tl := gv.tl
    refine wss_cons (ws_if (wt_gt (we_add (we_add ?_))))
    repeat walk_at "v"
    refine we_ix ?_
    repeat walk_at "v"
    refine ⟨_, _, rfl, item_tup (i := 0) rfl, h.length, len_str (by omega), ?_⟩
    repeat walk_at "v"
    refine we_ix ?_
    repeat walk_at "v"
    refine ⟨_, _, rfl, item_tup (i := 1) rfl, p.length, len_str (by omega), ?_⟩
    refine ⟨_, _, rfl, rfl, mul_r (by omega) (by omega), _, _, rfl, rfl, ?_⟩
    repeat walk_at "v"
    refine we_ix ?_
    repeat walk_at "v"
    refine ⟨_, _, rfl, item_tup (i := 2) rfl, t.length, len_str (by omega), ?_⟩
    refine ⟨_, _, rfl, rfl, ?_⟩
    repeat walk_at "v"
    have cast : (h.length : Int) + (n : Int) * (p.length : Int) + (t.length : Int) = ((h.length + n * p.length + t.length : Nat) : Int) := by
      rw [Int.natCast_add, Int.natCast_add, Int.natCast_mul]
    rw [cast]
    refine ⟨_, _, rfl, rfl, _, rfl, fun e => ?_, fun e => wss_nil ?_⟩
    · have e : 60 < h.length + n * p.length + t.length := by have := of_decide_eq_true e; omega
      have ec : colTold z ks sp ss nm h p t n = .tup [.str "BadColumn", .str "-1"] := by
        unfold colTold
        rw [if_pos e, colneg]
      rw [ec]
      refine wss_one (ws_ret ?_)
      repeat walk_at "v"
      refine ⟨rfl, _, rfl, fun _ => ?_, fun e => by cases e⟩
      refine we_one (we_eqD (hr.mono (by decide)) ?_)
      repeat walk_at "v"
      have ok : eqOk (.tup [.str "BadColumn", .str "-1"]) := ⟨⟨1, .inr ⟨_, .inr rfl, by show 2 ≤ _; omega, fun x hx => by
        simp only [List.mem_cons, List.not_mem_nil, or_false] at hx
        rcases hx with rfl | rfl <;> exact okD_atom (by decide +kernel)⟩⟩, by decide +kernel⟩
      refine ⟨ok, ok, ?_⟩
      rw [show eqB (.tup [.str "BadColumn", .str "-1"]) (.tup [.str "BadColumn", .str "-1"]) = true by decide +kernel]
      exact k
    have e : h.length + n * p.length + t.length ≤ 60 := by have := of_decide_eq_false e; omega
    have ec : colTold z ks sp ss nm h p t n = col (mak z ks sp ss nm) (grp h p t n) := by
      unfold colTold
      rw [if_neg (by omega)]
    rw [ec]
    have gg := grp_good gv n1 e
    have n60 : n ≤ 60 := by
      have : n * 1 ≤ n * p.length := Nat.mul_le_mul (Nat.le_refl _) p1
      omega
    have ml : (Txt.mul p (n : Nat)).length = p.length * n := mul_len p n
    have np' : p.length * n = n * p.length := Nat.mul_comm _ _
    refine wss_cons (ws_set 5 hN rfl (we_addS (we_addS (we_ix ?_))))
    repeat walk_at "v"
    refine ⟨_, _, rfl, item_tup (i := 0) rfl, ?_⟩
    refine we_mulS (we_ix ?_)
    repeat walk_at "v"
    refine ⟨_, _, rfl, item_tup (i := 1) rfl, ?_⟩
    repeat walk_at "v"
    refine ⟨_, _, rfl, rfl, mulOk_of (by omega) (by omega), _, _, rfl, rfl, by rw [ml, sizeLine_eq]; omega, ?_⟩
    refine we_ix ?_
    repeat walk_at "v"
    refine ⟨_, _, rfl, item_tup (i := 2) rfl, _, _, rfl, rfl, by rw [app_len, ml, sizeLine_eq]; omega, ?_⟩
    have eg : h ++ Txt.mul p (n : Nat) ++ t = grp h p t n := rfl
    rw [eg]
    generalize grp h p t n = g at gg
    refine wss_at (ρ := [some (.val (rawD z ks sp ss)), some (.val (mak z ks sp ss nm)), some (.val (col (mak z ks sp ss nm) g)), some (.val (vsT h p t)), some (.val (.int (n : Nat))), some (.val (.str g)), none, none]) rfl ?_
    refine wss_cons (ws_if (wt_wp (wp_or (wt_not (wt_val (we_isi nb ?_))))))
    repeat walk_at "v"
    refine we_gcl I.nm ?_
    refine ⟨_, _, true, rfl, rfl, fun k fs e => by cases e; exact I.ins, I.yes, _, rfl, fun e => Bool.noConfusion e, fun _ => ?_⟩
    refine wp_or (wt_ne (we_fld C.cl C.nG ?_))
    repeat walk_at "v"
    refine ⟨_, _, rfl, rfl, ?_⟩
    repeat walk_at "v"
    refine ne_str ⟨_, rfl, fun e => Bool.noConfusion e, fun _ => ?_⟩
    refine wp_or1 (wt_not (wt_eqO (Dm.obm dm) (hr.mono (by decide)) (we_fld C.cl C.nM ?_)))
    repeat walk_at "v"
    refine ⟨_, _, rfl, rfl, ?_⟩
    repeat walk_at "v"
    refine ⟨_, _, rfl, rfl, fun kk fs e => by cases e; exact IM, mnf, ?_⟩
    unfold fs_meq
    refine ⟨z, ks, sp, ss, nm, _, rfl, gM, .inl ⟨z, ks, sp, ss, nm, rfl, gM, _, rfl, _, rfl, ?_⟩⟩
    rw [show (decide (z = z) && (decide (ks = ks) && (decide (sp = sp) && decide (ss = ss)))) = true by simp]
    refine ⟨fun e => Bool.noConfusion e, fun _ => wss_nil ?_⟩
    refine wss_cons (ws_asg (we_call d1 (hr.mono (by decide)) ?_))
    repeat walk_at "v"
    refine ⟨z, ks, sp, ss, g, _, rfl, gM.gk, goodL_of gM gg, ?_⟩
    refine wg_tup rfl ⟨_, rfl, rfl, wg_name 6 hN rfl (wg_name 7 hN rfl ?_)⟩
    have dl : (delayL ks g.cps.toList).length ≤ 1000000 := by
      have := gg.l60
      have := Vl.len_list (z := g)
      unfold delayL
      rw [sums_len]
      omega
    refine wss_cons (ws_if (wt_wp (wp_or (wt_not (wt_val (we_isA nb (by decide) (we_prop C.cl dp (hr.mono (by decide)) ?_)))))))
    repeat walk_at "v"
    refine ⟨_, rfl, z, ks, sp, ss, nm, g, rfl, gM, gg, rfl, _, rfl, fun e => Bool.noConfusion e, fun _ => ?_⟩
    refine wp_or1 (wt_neD (hr.mono (by decide)) (we_prop C.cl dp (hr.mono (by decide)) ?_))
    repeat walk_at "v"
    refine ⟨_, rfl, z, ks, sp, ss, nm, g, rfl, gM, gg, ?_⟩
    repeat walk_at "v"
    refine ⟨eqOk_ints dl, eqOk_ints dl, ?_⟩
    rw [eqB_ints, decide_eq_true rfl]
    refine ⟨fun e => Bool.noConfusion e, fun _ => wss_nil ?_⟩
    refine wss_one (ws_ret (we_and (we_call d2 (hr.mono (by decide)) (we_prop C.cl dq (hr.mono (by decide)) ?_))))
    repeat walk_at "v"
    refine ⟨_, rfl, z, ks, sp, ss, nm, g, rfl, gM, gg, _, rfl, rfl, _, rfl, fun _ => ?_, fun e => by cases e⟩
    refine we_and (we_eq (we_prop C.cl dq (hr.mono (by decide)) ?_))
    repeat walk_at "v"
    refine ⟨_, rfl, z, ks, sp, ss, nm, g, rfl, gM, gg, ?_⟩
    repeat walk_at "v"
    refine eq_int ⟨_, rfl, fun _ => ?_, fun e => absurd rfl (of_decide_eq_false e)⟩
    refine we_one (we_eqO (Dm.obm dce) (hr.mono (by decide)) ?_)
    repeat walk_at "v"
    refine we_make dk (hr.mono (by decide)) ?_
    repeat walk_at "v"
    refine col_ok28 gg ?_
    refine ⟨_, _, rfl, rfl, fun kk fs e => by cases e; exact I.ins, cnf, ?_⟩
    unfold fs_ceq
    refine ⟨z, ks, sp, ss, nm, g, _, rfl, gM, .inl ⟨z, ks, sp, ss, nm, g, rfl, gM, ?_⟩⟩
    rw [show ((decide (z = z) && (decide (ks = ks) && (decide (sp = sp) && decide (ss = ss)))) && decide (g = g)) = true by simp]
    exact ⟨_, rfl, k⟩
end
section
set_option maxHeartbeats 16000000
open PySem PySem.Spec PyProof.Rows L2 Vl
variable {cls : Nat → Addr} {P : Program} {w : World} {K : PySem.W.Frag} {mg : Str → Option Value} {base : Heap}
/-! ### _law_numbers_true -/
abbrev s_ntrue : Stmt := top 77
abbrev ntrueN : List Str := ["_law_make_here", "_law_told", "_law_thing", "_law_values", "_law_numbers", "_law_once", "_law_twice", "_law_n", "_law_late", "_law_length"]
theorem sc_ntrue : FnScope ntrueN ["_law_make_here", "_law_told", "_law_thing", "_law_values", "_law_numbers"] (defScope s_ntrue) := ⟨rfl, rfl, rfl, by decide +kernel, rfl, by decide +kernel, by decide +kernel⟩
theorem nv_sc_ntrue : NmOk ntrueN (defScope s_ntrue) 10 := ⟨by decide +kernel⟩
theorem grpOne (h p t : Str) : h ++ p ++ t = grp h p t 1 := by
  unfold grp
  rw [mulOne]
@[irreducible] def fs_ntrue : FS := fun ds rt _ => ∃ z ks sp ss nm h p t, ∃ ns : List Nat, ds = [rawD z ks sp ss, mak z ks sp ss nm, fil (mak z ks sp ss nm) h p t, vsT h p t, .lst (ns.map fun n => D.int (n : Nat))] ∧ goodM z ks sp ss nm ∧ vOk nm h p t ∧ ns.length ≤ 100 ∧ (∀ n ∈ ns, 1 ≤ n) ∧ rt (.bl true)
theorem ok_ntrue {f : Addr} {fd : FuncData} (nb : NB mg) (d1 : Df P w K mg base cls "_law_measures" 3 ["_law_make_here", "_law_groups"] fs_meas) (d2 : Df P w K mg base cls "_law_is_int" 1 ["_law_thing"] fs_is_integer) (d3 : DfG P w K mg base cls "_law_asked" 11 ["_law_thing", "_law_which", "_law_n"] fs_askedF) (d4 : Df P w K mg base cls "_law_column_true" 9 ["_law_make_here", "_law_told", "_law_column_here", "_law_values", "_law_n"] fs_ctrue)
    (F : Fun K "_law_numbers_true" "_law_numbers_true" s_ntrue f fd) : FnG P w K mg base (L2N.CX P w) 12 f fd ["_law_make_here", "_law_told", "_law_thing", "_law_values", "_law_numbers"] (spOf cls fs_ntrue) := by
  have hV := nv_sc_ntrue
  refine def_okG F sc_ntrue (fun ds rt ex h => ?_) (fun cdv A outer s H E W R ds rt ex hr hG h => ?_)
  · unfold fs_ntrue at h
    obtain ⟨_, _, _, _, _, _, _, _, _, rfl, _⟩ := h
    rfl
  · unfold fs_ntrue at h
    obtain ⟨z, ks, sp, ss, nm, h, p, t, ns, rfl, gM, gv, nl, n1, k⟩ := h
    have hN := sc_ntrue.nd
    have hl := gv.hl
    have pl := gv.pl
    have p1 := gv.p1
    have tl := gv.tl
    have g1 := grp_good gv (n := 1) (by decide) (by omega)
    have g2 : goodP ks (grp h p t 2) := ⟨by rw [grp_len]; omega, by rw [grp_len]; omega, fun m hm => (name_of gM (grp_mem gv 2 m hm)).2⟩
    have asked : ∀ (d : D) (wh : Nat) (rt' : D → Prop), wh ≤ 2 → dat d = true → (numB d = false → repD d ∧ rt' (toldE4 10 d)) → (∀ n : Nat, 1 ≤ n → d = .int (n : Nat) → (wh = 0 → rt' (colTold z ks sp ss nm h p t n)) ∧ (wh = 1 → rt' (lateOf ks h p t (n : Nat))) ∧ (wh = 2 → rt' (longOf ks ss sp h p t (n : Nat)))) →
        fs_askedF [fil (mak z ks sp ss nm) h p t, .int (wh : Nat), d] rt' (fun _ => False) := fun d wh rt' w2 hd k1 k2 => by
      unfold fs_askedF
      refine ⟨z, ks, sp, ss, nm, h, p, t, d, wh, rfl, w2, gM, gv, hd, k1, fun n n1 en => ⟨fun e0 => ⟨fun big => ?_, fun sm => ?_⟩, (k2 n n1 en).2⟩⟩
      · have := (k2 n n1 en).1 e0
        unfold colTold at this
        rw [if_pos big] at this
        exact this
      · have := (k2 n n1 en).1 e0
        unfold colTold at this
        rw [if_neg (by omega)] at this
        exact this
    refine wss_cons (ws_set 5 hN rfl (we_call d1 (hr.mono (by decide)) ?_))
    repeat walk_at "v"
    refine we_addS (we_addS (we_ix ?_))
    repeat walk_at "v"
    refine ⟨_, _, rfl, item_tup (i := 0) rfl, ?_⟩
    refine we_ix ?_
    repeat walk_at "v"
    refine ⟨_, _, rfl, item_tup (i := 1) rfl, _, _, rfl, rfl, by rw [sizeLine_eq]; omega, ?_⟩
    refine we_ix ?_
    repeat walk_at "v"
    refine ⟨_, _, rfl, item_tup (i := 2) rfl, _, _, rfl, rfl, by rw [app_len, sizeLine_eq]; omega, ?_⟩
    rw [grpOne]
    refine was_nil ⟨z, ks, sp, ss, _, _, rfl, gM.gk, goodL_of gM g1, ?_⟩
    refine wss_cons (ws_set 6 hN rfl (we_call d1 (hr.mono (by decide)) ?_))
    repeat walk_at "v"
    refine we_addS (we_addS (we_ix ?_))
    repeat walk_at "v"
    refine ⟨_, _, rfl, item_tup (i := 0) rfl, ?_⟩
    refine we_mulS (we_ix ?_)
    repeat walk_at "v"
    refine ⟨_, _, rfl, item_tup (i := 1) rfl, ?_⟩
    repeat walk_at "v"
    have ml : (Txt.mul p ((2 : Nat) : Int)).length = p.length * 2 := mul_len p 2
    refine ⟨_, _, rfl, rfl, mulOk_of (k := 2) (by omega) (by decide), _, _, rfl, rfl, by rw [show (Txt.mul p 2).length = p.length * 2 from ml, sizeLine_eq]; omega, ?_⟩
    refine we_ix ?_
    repeat walk_at "v"
    refine ⟨_, _, rfl, item_tup (i := 2) rfl, _, _, rfl, rfl, by rw [app_len, show (Txt.mul p 2).length = p.length * 2 from ml, sizeLine_eq]; omega, ?_⟩
    rw [show h ++ Txt.mul p 2 ++ t = grp h p t 2 from rfl]
    refine was_nil ⟨z, ks, sp, ss, _, _, rfl, gM.gk, g2, ?_⟩
    have dm := delT_more ks (h := h) (t := t) p1
    have rm := restOf_more ks ss sp (h := h) (t := t) p1
    have b1 := sumLag_bd gM gv
    have b2 := sumLen_bd gM gv
    refine wss_cons (ws_for rfl (wi_list (we_addL ?_)))
    repeat walk_at "v"
    refine we_sliceL ?_
    repeat walk_at "v"
    refine ⟨_, rfl, ?_⟩
    show Vl.WE _ _ _ _ _
    repeat walk_at "v"
    refine ⟨2, rfl, _, _, rfl, rfl, ?_, ?_⟩
    · have := cut_le (ds := ns.map fun n => D.int (n : Nat)) (lo := none) (hi := some 2)
      rw [List.length_map] at this ⊢
      omega
    obtain ⟨ms, ems, hms⟩ : ∃ ms : List Nat, (ns.map fun n => D.int (n : Nat)) ++ Vl.cutD (ns.map fun n => D.int (n : Nat)) none (some 2) = ms.map (fun n => D.int (n : Nat)) ∧ ∀ n ∈ ms, 1 ≤ n := by
      refine ⟨ns ++ ns.take 2, ?_, fun n hn => ?_⟩
      · rw [List.map_append]
        congr 1
        rw [List.map_take]
        unfold Vl.cutD HT.sIx
        simp
      · rcases List.mem_append.mp hn with h | h
        · exact n1 n h
        · exact n1 n (List.mem_of_mem_take h)
    rw [ems]
    refine ⟨_, rfl, fun i ρ' => ∃ o7 o8 o9 : Option Sv, ρ' = [some (.val (rawD z ks sp ss)), some (.val (mak z ks sp ss nm)), some (.val (fil (mak z ks sp ss nm) h p t)), some (.val (vsT h p t)), some (.val (.lst (ns.map fun n => D.int (n : Nat)))), some (.val (measD ks ss sp (grp h p t 1).cps.toList)), some (.val (measD ks ss sp (grp h p t 2).cps.toList)), o7, o8, o9], ⟨_, _, _, rfl⟩, fun i d ρ' hi hI => ?_, fun ρ' hI => ?_⟩
    · obtain ⟨o7, o8, o9, rfl⟩ := hI
      rw [List.getElem?_map] at hi
      cases en : ms[i]? with
      | none => rw [en] at hi; cases hi
      | some n =>
      rw [en] at hi
      cases hi
      have nn := hms n (List.mem_of_getElem? en)
      have uniq : ∀ m : Nat, D.int (n : Nat) = D.int (m : Nat) → m = n := fun m e => by have := D.int.inj e; omega
      refine wg_name 7 hN rfl ?_
      refine wss_cons (ws_set 8 hN rfl (we_callG hG d3 hr ?_))
      repeat walk_at "v"
      refine asked (.int (n : Nat)) 1 _ (by decide) rfl (fun e => ?_) (fun m m1 em => ⟨fun e => (by cases e), fun _ => ?_, fun e => by cases e⟩)
      · have e : decide ((1 : Int) ≤ (n : Int)) = false := e
        have := of_decide_eq_false e
        omega
      rw [uniq m em]
      refine wss_cons (ws_if (wt_wp (wp_or (wt_not (wt_val (we_call d2 (hr.mono (by decide)) ?_))))))
      repeat walk_at "v"
      refine ⟨_, rfl, rfl, _, rfl, fun e => (by cases e), fun _ => ?_⟩
      refine wp_or1 (wt_ne ?_)
      repeat walk_at "v"
      refine we_add (we_ix (we_ix ?_))
      repeat walk_at "v"
      refine ⟨_, _, rfl, item_tup (i := 0) rfl, ?_⟩
      repeat walk_at "v"
      refine ⟨1, rfl, -1, .int (delT ks (grp h p t 1).cps.toList), rfl, sums_last _ _, ?_⟩
      repeat walk_at "v"
      refine ⟨_, _, rfl, rfl, ?_⟩
      refine we_sub (we_ix (we_ix ?_))
      repeat walk_at "v"
      refine ⟨_, _, rfl, item_tup (i := 0) rfl, ?_⟩
      repeat walk_at "v"
      refine ⟨1, rfl, -1, .int (delT ks (grp h p t 2).cps.toList), rfl, sums_last _ _, ?_⟩
      refine we_ix (we_ix ?_)
      repeat walk_at "v"
      refine ⟨_, _, rfl, item_tup (i := 0) rfl, ?_⟩
      repeat walk_at "v"
      refine ⟨1, rfl, -1, .int (delT ks (grp h p t 1).cps.toList), rfl, sums_last _ _, ?_⟩
      have ed : delT ks (grp h p t 2).cps.toList - delT ks (grp h p t 1).cps.toList = sumLag ks p.cps.toList := by omega
      refine ⟨_, _, rfl, rfl, ?_⟩
      rw [ed]
      refine ⟨_, _, rfl, rfl, mul_r (by omega) (by omega), _, _, rfl, rfl, ?_⟩
      refine ne_int ⟨_, rfl, fun e => Bool.noConfusion e, fun _ => wss_nil ?_⟩
      refine wss_cons (ws_if (wt_not (wt_val (we_call d4 (hr.mono (by decide)) ?_))))
      repeat walk_at "v"
      refine we_callG hG d3 hr ?_
      repeat walk_at "v"
      refine asked (.int (n : Nat)) 0 _ (by decide) rfl (fun e => ?_) (fun m m1 em => ⟨fun _ => ?_, fun e => (by cases e), fun e => by cases e⟩)
      · have e : decide ((1 : Int) ≤ (n : Int)) = false := e
        have := of_decide_eq_false e
        omega
      rw [uniq m em]
      repeat walk_at "v"
      unfold fs_ctrue
      refine ⟨z, ks, sp, ss, nm, h, p, t, n, rfl, gM, gv, nn, _, rfl, fun e => Bool.noConfusion e, fun _ => wss_nil ?_⟩
      refine wss_cons (ws_set 9 hN rfl (we_callG hG d3 hr ?_))
      repeat walk_at "v"
      refine asked (.int (n : Nat)) 2 _ (by decide) rfl (fun e => ?_) (fun m m1 em => ⟨fun e => (by cases e), fun e => (by cases e), fun _ => ?_⟩)
      · have e : decide ((1 : Int) ≤ (n : Int)) = false := e
        have := of_decide_eq_false e
        omega
      rw [uniq m em]
      refine wss_one (ws_if (wt_wp (wp_or (wt_not (wt_val (we_call d2 (hr.mono (by decide)) ?_))))))
      repeat walk_at "v"
      refine ⟨_, rfl, rfl, _, rfl, fun e => (by cases e), fun _ => ?_⟩
      refine wp_or1 (wt_ne ?_)
      repeat walk_at "v"
      refine we_add (we_ix ?_)
      repeat walk_at "v"
      refine ⟨_, _, rfl, item_tup (i := 1) rfl, ?_⟩
      repeat walk_at "v"
      refine ⟨_, _, rfl, rfl, ?_⟩
      refine we_sub (we_ix ?_)
      repeat walk_at "v"
      refine ⟨_, _, rfl, item_tup (i := 1) rfl, ?_⟩
      refine we_ix ?_
      repeat walk_at "v"
      refine ⟨_, _, rfl, item_tup (i := 1) rfl, ?_⟩
      have er : restOf ks ss sp (grp h p t 2).cps.toList - restOf ks ss sp (grp h p t 1).cps.toList = sumLen ks ss sp p.cps.toList := by omega
      refine ⟨_, _, rfl, rfl, ?_⟩
      rw [er]
      refine ⟨_, _, rfl, rfl, mul_r (by omega) (by omega), _, _, rfl, rfl, ?_⟩
      exact ne_int ⟨_, rfl, fun e => Bool.noConfusion e, fun _ => wss_nil ⟨_, _, _, rfl⟩⟩
    · obtain ⟨o7, o8, o9, rfl⟩ := hI
      refine wss_one (ws_ret ?_)
      repeat walk_at "v"
      exact k
end
section
set_option maxHeartbeats 16000000
open PySem PySem.Spec PyProof.Rows L2 Vl
variable {cls : Nat → Addr} {P : Program} {w : World} {K : PySem.W.Frag} {mg : Str → Option Value} {base : Heap}
section
variable {c : Cy cls} {ρ : Rho}
theorem opd_notB : OpD c rNotB (fun x y P => ∃ a b, x = .bl a ∧ y = .bl b ∧ P (.bl (a != b))) := fun R H vx vy x y P nd ok qx qy f Q k => by
  obtain ⟨a, b, rfl, rfl, h⟩ := f
  cases qx
  cases qy
  refine ⟨a, b, rfl, rfl, k _ _ (Fin.here ok nd (.bl _) ?_)⟩
  exact h
theorem wt_notB {a b : Expr} {pos : Pos} {P : Bool → Prop} {ex : Xd → Prop} (h : WE c a ρ (fun x => WE c b ρ (fun y => ∃ a b, x = .bl a ∧ y = .bl b ∧ BP P (.bl (a != b))) ex) ex) : WT c (.Compare a [.IsNot] [b] pos) ρ P ex :=
  wt_bin (pt_cmpR op_notBl (peU c a) (peU c b) (nomark _)) opd_notB h
end
theorem code_nm {z ks sp ss nm} (g : goodM z ks sp ss nm) {h : Str} (hl : h.length ≤ 1000) (hm : ∀ n ∈ h.cps.toList, n ∈ nm.cps.toList) : codeOk h := ⟨hl, fun n hn => by
  obtain ⟨_, h2⟩ := atK_kind (name_of g (hm n hn)).2
  obtain ⟨a, e, ha⟩ := (g.gk.2 _ h2).1
  have : n = a := by
    have e : one n = one a := e
    simpa [one] using e
  rw [this]
  exact caps_lim a ha⟩
theorem eqOk_strs {xs : List Str} (hl : xs.length ≤ 1000) (h : ∀ x ∈ xs, codeOk x) : eqOk (.lst (xs.map D.str)) ∧ eqOk (.tup (xs.map D.str)) := by
  obtain ⟨h1, h2⟩ := lay_listG (g := D.str) (p := codeOk) (m := 0) (fun x hx => by
    have := lay_str hx
    exact ⟨this.1, by rw [this.2]; exact Nat.le_refl _⟩) xs h
  have ok : ∀ x ∈ xs.map D.str, okD 0 x := fun x hx => by
    obtain ⟨y, hy, rfl⟩ := List.mem_map.mp hx
    exact okD_atom (decide_eq_true (by have := (h y hy).1; omega))
  constructor
  · refine ⟨⟨1, .inr ⟨_, .inl rfl, by rw [List.length_map]; omega, ok⟩⟩, ?_⟩
    show (PyData.canLay0 (pyOf (.lst (xs.map D.str))) && decide (PyData.depth (pyOf (.lst (xs.map D.str))) ≤ 64)) = true
    rw [show pyOf (.lst (xs.map D.str)) = .list (pyOfL (xs.map D.str)) by rw [pyOf]]
    simp only [PyData.canLay0, PyData.depth, h1, Bool.true_and]
    refine decide_eq_true ?_
    omega
  · refine ⟨⟨1, .inr ⟨_, .inr rfl, by rw [List.length_map]; omega, ok⟩⟩, ?_⟩
    show (PyData.canLay0 (pyOf (.tup (xs.map D.str))) && decide (PyData.depth (pyOf (.tup (xs.map D.str))) ≤ 64)) = true
    rw [show pyOf (.tup (xs.map D.str)) = .tuple (pyOfL (xs.map D.str)) by rw [pyOf]]
    simp only [PyData.canLay0, PyData.depth, h1, Bool.true_and]
    refine decide_eq_true ?_
    omega
theorem eqv_self : ∀ xs : List Str, PyData.eqvAll (pyOfL (xs.map D.str)) (pyOfL (xs.map D.str)) = true
  | [] => by rw [List.map_nil, pyOfL]; rfl
  | x :: xs => by
    rw [List.map_cons, pyOfL, PyData.eqvAll, eqv_self xs]
    have := eqB_refl_str x
    unfold eqB at this
    rw [this]
    rfl
theorem eqB_strs (xs : List Str) : eqB (.lst (xs.map D.str)) (.lst (xs.map D.str)) = true ∧ eqB (.tup (xs.map D.str)) (.tup (xs.map D.str)) = true := by
  constructor
  · unfold eqB
    rw [show pyOf (.lst (xs.map D.str)) = .list (pyOfL (xs.map D.str)) by rw [pyOf], PyData.eqv]
    exact eqv_self xs
  · unfold eqB
    rw [show pyOf (.tup (xs.map D.str)) = .tuple (pyOfL (xs.map D.str)) by rw [pyOf], PyData.eqv]
    exact eqv_self xs
theorem longer_ok {nm h : Str} {n : Nat} (hl : h.length ≤ 20) (hm : ∀ n ∈ h.cps.toList, n ∈ nm.cps.toList) (hn : n ∈ nm.cps.toList) : (longerZ h (one n)).length ≤ 20 ∧ 1 ≤ (longerZ h (one n)).length ∧ (∀ m ∈ (longerZ h (one n)).cps.toList, m ∈ nm.cps.toList) ∧ longerZ h (one n) ≠ h := by
  have o1 : (one n).length = 1 := rfl
  unfold longerZ
  by_cases c : h.length < 20
  · rw [if_pos c]
    have l := app_len h (one n)
    refine ⟨by omega, by omega, fun m hm' => ?_, fun e => ?_⟩
    · rw [app_list, List.mem_append] at hm'
      rcases hm' with h' | h'
      · exact hm m h'
      · have : m = n := by simpa [one] using h'
        rw [this]
        exact hn
    · rw [e] at l
      omega
  · rw [if_neg c]
    have cs := cut_suf h (k := 1)
    have l : (cutS h (some (1 : Int)) none).length = h.length - 1 := by
      rw [Vl.len_list, show (cutS h (some (1 : Int)) none).cps.toList = h.cps.toList.drop 1 from cs, List.length_drop, ← Vl.len_list]
    refine ⟨by omega, by omega, fun m hm' => ?_, fun e => ?_⟩
    · rw [show (cutS h (some (1 : Int)) none).cps.toList = h.cps.toList.drop 1 from cs] at hm'
      exact hm m (List.mem_of_mem_drop hm')
    · rw [e] at l
      omega
theorem file_ok {z ks sp ss nm h p t} (gM : goodM z ks sp ss nm) (v : vOk nm h p t) {rt : List (Str × D) → Prop} {ex : Xd → Prop} (k : rt (filF (mak z ks sp ss nm) h p t)) : fi_file [mak z ks sp ss nm, .str h, .str p, .str t] rt ex := by
  have tx : ∀ x : Str, x.length ≤ 20 → txtOk (.str x) := fun x hx => ⟨rfl, fun y e => by cases e; omega⟩
  have hl := v.hl
  have pl := v.pl
  have tl := v.tl
  have p1 := v.p1
  have good : ∀ (x : Str) (a : Int), a ≤ (x.length : Int) → x.length ≤ 20 → (∀ n ∈ x.cps.toList, n ∈ nm.cps.toList) → wordF (.str x) nm a = true := fun x a h1 h2 h3 => by
    unfold wordF
    rw [mispD_str, if_pos ⟨h1, by omega⟩]
    have : offAt x nm = none := List.findIdx?_eq_none_iff.mpr fun m hm => by simp [h3 m hm]
    rw [this]
    rfl
  unfold fi_file
  refine ⟨z, ks, sp, ss, nm, _, _, _, rfl, gM, tx h hl, tx p pl, tx t tl, fun w hw => ?_, fun h' p' t' e1 e2 e3 _ => ?_⟩
  · unfold firstF at hw
    rw [good h 0 (by omega) hl v.hm, good p 1 (by omega) pl v.pm, good t 0 (by omega) tl v.tm] at hw
    cases hw
  · cases e1
    cases e2
    cases e3
    exact k
end
section
set_option maxHeartbeats 16000000
open PySem PySem.Spec PyProof.Rows L2 Vl
variable {cls : Nat → Addr} {P : Program} {w : World} {K : PySem.W.Frag} {mg : Str → Option Value} {base : Heap}
/-! ### _law_alike_true -/
abbrev s_alike : Stmt := top 79
abbrev alikeN : List Str := ["_law_draw_here", "_law_make_here", "_law_told", "_law_thing", "_law_values", "_law_names_here", "_law_again", "_law_name", "_law_others", "_law_other", "_law_word"]
theorem sc_alike : FnScope alikeN ["_law_draw_here", "_law_make_here", "_law_told", "_law_thing", "_law_values", "_law_names_here"] (defScope s_alike) := ⟨rfl, rfl, rfl, by decide +kernel, rfl, by decide +kernel, by decide +kernel⟩
theorem nv_sc_alike : NmOk alikeN (defScope s_alike) 10 := ⟨by decide +kernel⟩
/-- what is known of the class of files -/
structure FlAll (P : Program) (w : World) (K : PySem.W.Frag) (mg : Str → Option Value) (base : Heap) (cls : Nat → Addr) : Prop where
  C : FlC K (cls 30)
  I : MkI K mg "File" (cls 30)
  n0 : PySem.W.notFirst K (cls 30) (.ref (cls 30)) = true
  ni : PySem.W.notFirst K (cls 30) (.type "int") = true
  nn : PySem.W.notFirst K (cls 30) (.type "NoneType") = true
  ns : PySem.W.notFirst K (cls 30) (.type "str") = true
  nt : PySem.W.notFirst K (cls 30) (.type "tuple") = true
  make : Dk P w K mg base cls "File" 30 3 ["make", "head", "part", "tail"] fi_file
  eq : Dm P w K mg base cls 30 "__eq__" 2 ["self", "other"] fs_feq
@[irreducible] def fs_alike : FS := fun ds rt _ => ∃ z ks sp ss nm h p t, ds = [.own 1, rawD z ks sp ss, mak z ks sp ss nm, fil (mak z ks sp ss nm) h p t, vsT h p t, .str nm] ∧ rawG z ks sp ss ∧ allN ks nm ∧ vOk nm h p t ∧ rt (.bl true)
/-- another thing than the file -/
def otherF (z : Str) (ks : List Kd) (sp : Int) (ss : List Se) (h p t : Str) (o : D) : Prop := (∃ z' ks' sp' ss' nm' h' p' t', o = fil (mak z' ks' sp' ss' nm') h' p' t' ∧ goodM z' ks' sp' ss' nm' ∧ ((z, ks, sp, ss) ≠ (z', ks', sp', ss') ∨ h ≠ h' ∨ p ≠ p' ∨ t ≠ t')) ∨ (o = .int 5 ∨ o = .non ∨ (∃ x, o = .str x) ∨ ∃ xs, o = .tup xs)
theorem other_eq {c : Cy cls} {ρ : Rho} {a b : Expr} {pos : Pos} {z ks sp ss nm h p t} {o : D} {ex : Xd → Prop} (FA : FlAll c.X.prog c.X.w c.X.K c.X.mg c.X.base cls) (hr : Room 2 c.X.A) (gM : goodM z ks sp ss nm) (ho : otherF z ks sp ss h p t o) (ha : ∀ Q : D → Prop, Q (fil (mak z ks sp ss nm) h p t) → WE c a ρ Q ex) (hb : ∀ Q : D → Prop, Q o → WE c b ρ Q ex) :
    ∀ Q : D → Prop, Q (.bl false) → WE c (.Compare a [.Eq] [b] pos) ρ Q ex := fun Q hQ => by
  refine we_eqO (Dm.obm FA.eq) hr (ha _ (hb _ ?_))
  rcases ho with ⟨z', ks', sp', ss', nm', h', p', t', rfl, gM', ne⟩ | ho
  · refine ⟨_, _, rfl, rfl, fun kk fs e => by cases e; exact FA.I.ins, FA.n0, ?_⟩
    unfold fs_feq
    refine ⟨z, ks, sp, ss, nm, h, p, t, _, rfl, gM, .inl ⟨z', ks', sp', ss', nm', h', p', t', rfl, gM', ?_⟩⟩
    have e : ((decide (z = z') && (decide (ks = ks') && (decide (sp = sp') && decide (ss = ss')))) && (decide (h = h') && (decide (p = p') && decide (t = t')))) = false := by
      rw [Bool.eq_false_iff]
      intro e
      simp only [Bool.and_eq_true, decide_eq_true_eq] at e
      obtain ⟨⟨e1, e2, e3, e4⟩, e5, e6, e7⟩ := e
      rcases ne with h1 | h1 | h1 | h1
      · exact h1 (by rw [e1, e2, e3, e4])
      · exact h1 e5
      · exact h1 e6
      · exact h1 e7
    rw [e]
    exact ⟨_, rfl, hQ⟩
  · have fin : ∀ ty : Value, tagV cls o = some ty → dat o = true → (∀ k gs, o ≠ .obj k gs) → PySem.W.notFirst c.X.K (cls 30) ty = true → ∃ gs t_1, fil (mak z ks sp ss nm) h p t = .obj 30 gs ∧ tagV cls o = some t_1 ∧ (∀ k fs, o = .obj k fs → InsF c.X.K (cls k)) ∧ PySem.W.notFirst c.X.K (cls 30) t_1 = true ∧ fs_feq [fil (mak z ks sp ss nm) h p t, o] (fun d => ∃ b, d = .bl b ∧ Q (.bl b)) (fun _ => False) := fun ty h1 h2 h3 h4 => by
      refine ⟨_, ty, rfl, h1, fun k fs e => absurd e (h3 k fs), h4, ?_⟩
      unfold fs_feq
      exact ⟨z, ks, sp, ss, nm, h, p, t, _, rfl, gM, .inr ⟨h2, h3, _, rfl, hQ⟩⟩
    rcases ho with rfl | rfl | ⟨x, rfl⟩ | ⟨xs, rfl⟩
    · exact fin (.type "int") rfl rfl (fun _ _ e => by cases e) FA.ni
    · exact fin (.type "NoneType") rfl rfl (fun _ _ e => by cases e) FA.nn
    · exact fin (.type "str") rfl rfl (fun _ _ e => by cases e) FA.ns
    · exact fin (.type "tuple") rfl rfl (fun _ _ e => by cases e) FA.nt
theorem self_eq {c : Cy cls} {ρ : Rho} {a b : Expr} {pos : Pos} {z ks sp ss nm h p t} {ex : Xd → Prop} (FA : FlAll c.X.prog c.X.w c.X.K c.X.mg c.X.base cls) (hr : Room 2 c.X.A) (gM : goodM z ks sp ss nm) (ha : ∀ Q : D → Prop, Q (fil (mak z ks sp ss nm) h p t) → WE c a ρ Q ex) (hb : ∀ Q : D → Prop, Q (fil (mak z ks sp ss nm) h p t) → WE c b ρ Q ex) :
    ∀ Q : D → Prop, Q (.bl true) → WE c (.Compare a [.Eq] [b] pos) ρ Q ex := fun Q hQ => by
  refine we_eqO (Dm.obm FA.eq) hr (ha _ (hb _ ?_))
  refine ⟨_, _, rfl, rfl, fun kk fs e => by cases e; exact FA.I.ins, FA.n0, ?_⟩
  unfold fs_feq
  refine ⟨z, ks, sp, ss, nm, h, p, t, _, rfl, gM, .inl ⟨z, ks, sp, ss, nm, h, p, t, rfl, gM, ?_⟩⟩
  rw [show ((decide (z = z) && (decide (ks = ks) && (decide (sp = sp) && decide (ss = ss)))) && (decide (h = h) && (decide (p = p) && decide (t = t)))) = true by simp]
  exact ⟨_, rfl, hQ⟩
theorem ok_alike {f : Addr} {fd : FuncData} (nb : NB mg) (FA : FlAll P w K mg base cls) (IM : InsF K (cls 26)) (mnf : PySem.W.notFirst K (cls 26) (.ref (cls 26)) = true) (dm : Dm P w K mg base cls 26 "__eq__" 1 ["self", "other"] fs_meq) (dM : Dk P w K mg base cls "Make" 26 8 ["words", "kinds", "space", "seats"] (fi_make K)) (d1 : Df P w K mg base cls "_law_pick" 2 ["_law_draw_here", "_law_many"] fs_pick) (d2 : Df P w K mg base cls "_law_longer" 1 ["_law_word", "_law_name"] fs_longer)
    (F : Fun K "_law_alike_true" "_law_alike_true" s_alike f fd) : FnOk P w K mg base (L2N.CX P w) 10 f fd ["_law_draw_here", "_law_make_here", "_law_told", "_law_thing", "_law_values", "_law_names_here"] (spOf cls fs_alike) := by
  have hV := nv_sc_alike
  refine def_ok F sc_alike (fun ds rt ex h => ?_) (fun cdv A outer s H E W R ds rt ex hr h => ?_)
  · unfold fs_alike at h
    obtain ⟨_, _, _, _, _, _, _, _, rfl, _⟩ := h
    rfl
  · unfold fs_alike at h
    obtain ⟨z, ks, sp, ss, nm, h, p, t, rfl, g, an, gv, k⟩ := h
    have hN := sc_alike.nd
    have gM := g.good an
    have hl := gv.hl
    have pl := gv.pl
    have p1 := gv.p1
    have tl := gv.tl
    have zl := g.zl
    have kl := g.kl
    have nl := an.1
    have C := FA.C
    have mkeq : (decide (z = z) && (decide (ks = ks) && (decide (sp = sp) && decide (ss = ss)))) = true := by simp
    have feq : ((decide (z = z) && (decide (ks = ks) && (decide (sp = sp) && decide (ss = ss)))) && (decide (h = h) && (decide (p = p) && decide (t = t)))) = true := by simp
    have vs := eqOk_strs (xs := [h, p, t]) (by show 3 ≤ 1000; decide) (fun x hx => by
      simp only [List.mem_cons, List.not_mem_nil, or_false] at hx
      rcases hx with rfl | rfl | rfl
      · exact code_nm gM (by omega) gv.hm
      · exact code_nm gM (by omega) gv.pm
      · exact code_nm gM (by omega) gv.tm)
    -- the making of a make
    have mk : ∀ (sp' : Int) (rt' : List (Str × D) → Prop) (ex' : Xd → Prop), rawG z ks sp' ss → rt' (makF z ks sp' ss nm) → fi_make K [.str z, .tup (ks.map kindT), .int sp', .tup (ss.map seatT)] rt' ex' := fun sp' rt' ex' g' hk => by
      have gM' := g'.good an
      unfold fi_make
      exact ⟨_, _, _, _, rfl, ⟨rfl, fun y e => by cases e; omega⟩, okD_le (by decide) (okD_kinds (by omega) gM'.eqk), rfl, .inl (okD_le (by decide) (okD_seats gM'.sl gM'.eqs)), due_ok g'.words (tupled_kinds ks) g'.gk g'.s0 g'.s20 an (dueS_ok (tupled_seats ss) (g'.gs nm an) hk)⟩
    refine wss_cons (ws_if (wt_wp (wp_or (wt_not (wt_eqO (Dm.obm dm) (hr.mono (by decide)) (we_fld C.cl C.nM ?_))))))
    repeat walk_at "v"
    refine ⟨_, _, rfl, rfl, ?_⟩
    repeat walk_at "v"
    refine ⟨_, _, rfl, rfl, fun kk fs e => by cases e; exact IM, mnf, ?_⟩
    unfold fs_meq
    refine ⟨z, ks, sp, ss, nm, _, rfl, gM, .inl ⟨z, ks, sp, ss, nm, rfl, gM, _, rfl, _, rfl, ?_⟩⟩
    rw [mkeq]
    refine ⟨fun e => Bool.noConfusion e, fun _ => ?_⟩
    refine wp_or1 (wt_neD (hr.mono (by decide)) (we_lst (we_fld C.cl C.nH ?_)))
    repeat walk_at "v"
    refine ⟨_, _, rfl, rfl, ?_⟩
    refine we_fld C.cl C.nP ?_
    repeat walk_at "v"
    refine ⟨_, _, rfl, rfl, ?_⟩
    refine we_fld C.cl C.nT ?_
    repeat walk_at "v"
    refine ⟨_, _, rfl, rfl, ?_⟩
    refine was_nil ?_
    refine we_lc 10 hN (LC.map (wi_tup ?_))
    repeat walk_at "v"
    refine ⟨_, rfl, by show 3 ≤ _; omega, fun i x y => y = x, fun i x hi => ⟨_, rfl, fun s0 H0 C0 cl0 fp0 => ?_⟩, fun acc a1 a2 => ?_⟩
    · repeat walk_at "v"
      rfl
    rw [acc_map (g := id) a1 (fun i d y h1 h2 => a2 i d y h1 h2), List.map_id]
    refine ⟨vs.1, vs.1, ?_⟩
    rw [show eqB (.lst [.str h, .str p, .str t]) (.lst [.str h, .str p, .str t]) = true from (eqB_strs [h, p, t]).1]
    refine ⟨fun e => Bool.noConfusion e, fun _ => wss_nil ?_⟩
    -- the same again
    refine wss_cons (ws_set 6 hN rfl (we_make FA.make (hr.mono (by decide)) (we_make dM (hr.mono (by decide)) ?_)))
    refine we_ix ?_
    repeat walk_at "v"
    refine ⟨_, _, rfl, item_tup (i := 0) rfl, ?_⟩
    refine we_ix ?_
    repeat walk_at "v"
    refine ⟨_, _, rfl, item_tup (i := 1) rfl, ?_⟩
    refine we_ix ?_
    repeat walk_at "v"
    refine ⟨_, _, rfl, item_tup (i := 2) rfl, ?_⟩
    refine we_ix ?_
    repeat walk_at "v"
    refine ⟨_, _, rfl, item_tup (i := 3) rfl, ?_⟩
    refine was_nil (mk sp _ _ g ?_)
    refine we_ix ?_
    repeat walk_at "v"
    refine ⟨_, _, rfl, item_tup (i := 0) rfl, ?_⟩
    refine we_ix ?_
    repeat walk_at "v"
    refine ⟨_, _, rfl, item_tup (i := 1) rfl, ?_⟩
    refine we_ix ?_
    repeat walk_at "v"
    refine ⟨_, _, rfl, item_tup (i := 2) rfl, ?_⟩
    refine was_nil (file_ok gM gv ?_)
    refine wss_at (ρ := [some (.val (.own 1)), some (.val (rawD z ks sp ss)), some (.val (mak z ks sp ss nm)), some (.val (fil (mak z ks sp ss nm) h p t)), some (.val (vsT h p t)), some (.val (.str nm)), some (.val (fil (mak z ks sp ss nm) h p t)), none, none, none, none]) rfl ?_
    refine wss_cons (ws_if (wt_wp (wp_or (wt_notB (self_eq FA (hr.mono (by decide)) gM (fun Q hq => by (repeat walk_at "v"); exact hq) (fun Q hq => by (repeat walk_at "v"); exact hq) _ ?_)))))
    repeat walk_at "v"
    refine ⟨_, _, rfl, rfl, _, rfl, fun e => Bool.noConfusion e, fun _ => ?_⟩
    refine wp_or1 (wt_notB (self_eq FA (hr.mono (by decide)) gM (fun Q hq => by (repeat walk_at "v"); exact hq) (fun Q hq => by (repeat walk_at "v"); exact hq) _ ?_))
    repeat walk_at "v"
    refine ⟨_, _, rfl, rfl, _, rfl, fun e => Bool.noConfusion e, fun _ => wss_nil ?_⟩
    -- a name
    refine wss_cons (ws_set 7 hN rfl (we_ix ?_))
    repeat walk_at "v"
    refine we_call d1 (hr.mono (by decide)) ?_
    repeat walk_at "v"
    refine ⟨nm.length, len_str (by omega), _, rfl, by omega, fun r r0 r1 => ?_⟩
    obtain ⟨a, ha, _, it⟩ := pick_sgn (z := nm) (by omega) r0 (by omega)
    refine ⟨r, _, rfl, it, ?_⟩
    obtain ⟨h1, h2, h3, h4⟩ := longer_ok hl gv.hm ha
    obtain ⟨q1, q2, q3, q4⟩ := longer_ok pl gv.pm ha
    obtain ⟨t1, t2, t3, t4⟩ := longer_ok tl gv.tm ha
    have s0 := g.s0
    have s20 := g.s20
    obtain ⟨sp', esp, sp0, sp20, spn⟩ : ∃ sp' : Int, (sp + 1).fmod 21 = sp' ∧ 0 ≤ sp' ∧ sp' ≤ 20 ∧ sp' ≠ sp := by
      refine ⟨_, rfl, ?_, ?_, ?_⟩ <;> rw [Int.fmod_eq_emod_of_nonneg _ (by decide)] <;> omega
    have g' : rawG z ks sp' ss := ⟨g.wd, g.gk, sp0, sp20, g.gs, g.sl⟩
    have gM' := g'.good an
    have lon : ∀ (x : Str) (rt' : D → Prop) (ex' : Xd → Prop), x.length ≤ 20 → rt' (.str (longerZ x (one a))) → fs_longer [.str x, .str (one a)] rt' ex' := fun x rt' ex' hx hk => ⟨x, one a, rfl, by omega, by show 1 ≤ 1000; decide, hk⟩
    refine wss_cons (ws_own 8 hN rfl (we_make FA.make (hr.mono (by decide)) ?_))
    repeat walk_at "v"
    refine we_call d2 (hr.mono (by decide)) (we_ix ?_)
    repeat walk_at "v"
    refine ⟨_, _, rfl, item_tup (i := 0) rfl, ?_⟩
    repeat walk_at "v"
    refine was_nil (lon h _ _ hl ?_)
    refine we_ix ?_
    repeat walk_at "v"
    refine ⟨_, _, rfl, item_tup (i := 1) rfl, ?_⟩
    refine we_ix ?_
    repeat walk_at "v"
    refine ⟨_, _, rfl, item_tup (i := 2) rfl, ?_⟩
    refine was_nil (file_ok gM ⟨h1, p1, pl, tl, h3, gv.pm, gv.tm⟩ ?_)
    refine we_make FA.make (hr.mono (by decide)) ?_
    repeat walk_at "v"
    refine we_ix ?_
    repeat walk_at "v"
    refine ⟨_, _, rfl, item_tup (i := 0) rfl, ?_⟩
    refine we_call d2 (hr.mono (by decide)) (we_ix ?_)
    repeat walk_at "v"
    refine ⟨_, _, rfl, item_tup (i := 1) rfl, ?_⟩
    repeat walk_at "v"
    refine was_nil (lon p _ _ pl ?_)
    refine we_ix ?_
    repeat walk_at "v"
    refine ⟨_, _, rfl, item_tup (i := 2) rfl, ?_⟩
    refine was_nil (file_ok gM ⟨hl, q2, q1, tl, gv.hm, q3, gv.tm⟩ ?_)
    refine we_make FA.make (hr.mono (by decide)) ?_
    repeat walk_at "v"
    refine we_ix ?_
    repeat walk_at "v"
    refine ⟨_, _, rfl, item_tup (i := 0) rfl, ?_⟩
    refine we_ix ?_
    repeat walk_at "v"
    refine ⟨_, _, rfl, item_tup (i := 1) rfl, ?_⟩
    refine we_call d2 (hr.mono (by decide)) (we_ix ?_)
    repeat walk_at "v"
    refine ⟨_, _, rfl, item_tup (i := 2) rfl, ?_⟩
    repeat walk_at "v"
    refine was_nil (lon t _ _ tl ?_)
    refine was_nil (file_ok gM ⟨hl, p1, pl, t1, gv.hm, gv.pm, t3⟩ ?_)
    refine we_make FA.make (hr.mono (by decide)) (we_make dM (hr.mono (by decide)) ?_)
    refine we_ix ?_
    repeat walk_at "v"
    refine ⟨_, _, rfl, item_tup (i := 0) rfl, ?_⟩
    refine we_ix ?_
    repeat walk_at "v"
    refine ⟨_, _, rfl, item_tup (i := 1) rfl, ?_⟩
    refine we_mod (we_int1 nb (we_add (we_ix ?_)))
    repeat walk_at "v"
    refine ⟨_, _, rfl, item_tup (i := 2) rfl, ?_⟩
    repeat walk_at "v"
    refine ⟨_, _, rfl, rfl, _, rfl, ?_⟩
    repeat walk_at "v"
    refine ⟨_, _, rfl, rfl, by decide, ?_⟩
    refine we_ix ?_
    repeat walk_at "v"
    refine ⟨_, _, rfl, item_tup (i := 3) rfl, ?_⟩
    rw [esp]
    refine was_nil (mk sp' _ _ g' ?_)
    refine we_ix ?_
    repeat walk_at "v"
    refine ⟨_, _, rfl, item_tup (i := 0) rfl, ?_⟩
    refine we_ix ?_
    repeat walk_at "v"
    refine ⟨_, _, rfl, item_tup (i := 1) rfl, ?_⟩
    refine we_ix ?_
    repeat walk_at "v"
    refine ⟨_, _, rfl, item_tup (i := 2) rfl, ?_⟩
    refine was_nil (file_ok gM' gv ?_)
    obtain ⟨os0, e0⟩ : ∃ os, os = [fil (mak z ks sp ss nm) (longerZ h (one a)) p t, fil (mak z ks sp ss nm) h (longerZ p (one a)) t, fil (mak z ks sp ss nm) h p (longerZ t (one a)), fil (mak z ks sp' ss nm) h p t] := ⟨_, rfl⟩
    have ho0 : ∀ o ∈ os0, otherF z ks sp ss h p t o := fun o ho => by
      rw [e0] at ho
      simp only [List.mem_cons, List.not_mem_nil, or_false] at ho
      rcases ho with rfl | rfl | rfl | rfl
      · exact .inl ⟨z, ks, sp, ss, nm, _, _, _, rfl, gM, .inr (.inl fun e => h4 e.symm)⟩
      · exact .inl ⟨z, ks, sp, ss, nm, _, _, _, rfl, gM, .inr (.inr (.inl fun e => q4 e.symm))⟩
      · exact .inl ⟨z, ks, sp, ss, nm, _, _, _, rfl, gM, .inr (.inr (.inr fun e => t4 e.symm))⟩
      · exact .inl ⟨z, ks, sp', ss, nm, _, _, _, rfl, gM', .inl fun e => spn (by simp only [Prod.mk.injEq] at e; exact e.2.2.1.symm)⟩
    have l0 : os0.length = 4 := by rw [e0]; rfl
    refine was_nil (wss_at (ρ := [some (.val (.own 1)), some (.val (rawD z ks sp ss)), some (.val (mak z ks sp ss nm)), some (.val (fil (mak z ks sp ss nm) h p t)), some (.val (vsT h p t)), some (.val (.str nm)), some (.val (fil (mak z ks sp ss nm) h p t)), some (.val (.str (one a))), some (.lst os0), none, none]) (by rw [e0]; rfl) ?_)
    have hp20 : (h ++ p).length = h.length + p.length := app_len h p
    refine wss_cons (ws_ifQ (fun ρ' => ∃ os : List D, (∀ o ∈ os, otherF z ks sp ss h p t o) ∧ os.length ≤ 5 ∧ ρ' = [some (.val (.own 1)), some (.val (rawD z ks sp ss)), some (.val (mak z ks sp ss nm)), some (.val (fil (mak z ks sp ss nm) h p t)), some (.val (vsT h p t)), some (.val (.str nm)), some (.val (fil (mak z ks sp ss nm) h p t)), some (.val (.str (one a))), some (.lst os), none, none]) (wt_le (we_add ?_)) fun ρ' eρ => ?_)
    · repeat walk_at "v"
      refine we_ix ?_
      repeat walk_at "v"
      refine ⟨_, _, rfl, item_tup (i := 0) rfl, h.length, len_str (by omega), ?_⟩
      repeat walk_at "v"
      refine we_ix ?_
      repeat walk_at "v"
      refine ⟨_, _, rfl, item_tup (i := 1) rfl, p.length, len_str (by omega), ?_⟩
      refine ⟨_, _, rfl, rfl, ?_⟩
      repeat walk_at "v"
      refine ⟨_, _, rfl, rfl, _, rfl, fun e => ?_, fun e => wss_nil ⟨os0, ho0, by omega, rfl⟩⟩
      have e := of_decide_eq_true e
      refine wss_one (ws_app 8 rfl rfl (by rw [l0, sizeLine_eq]; decide) (we_make FA.make (hr.mono (by decide)) ?_))
      repeat walk_at "v"
      refine we_addS (we_ix ?_)
      repeat walk_at "v"
      refine ⟨_, _, rfl, item_tup (i := 0) rfl, ?_⟩
      refine we_ix ?_
      repeat walk_at "v"
      refine ⟨_, _, rfl, item_tup (i := 1) rfl, _, _, rfl, rfl, by rw [sizeLine_eq]; omega, ?_⟩
      refine we_ix ?_
      repeat walk_at "v"
      refine ⟨_, _, rfl, item_tup (i := 1) rfl, ?_⟩
      refine we_ix ?_
      repeat walk_at "v"
      refine ⟨_, _, rfl, item_tup (i := 2) rfl, ?_⟩
      refine was_nil (file_ok gM ⟨by omega, p1, pl, tl, fun m hm => ?_, gv.pm, gv.tm⟩ ?_)
      · rw [app_list, List.mem_append] at hm
        rcases hm with h' | h'
        · exact gv.hm m h'
        · exact gv.pm m h'
      · refine ⟨os0 ++ [fil (mak z ks sp ss nm) (h ++ p) p t], fun o ho => ?_, by rw [List.length_append, l0]; exact Nat.le_refl 5, rfl⟩
        rcases List.mem_append.mp ho with h' | h'
        · exact ho0 o h'
        · rw [List.mem_singleton.mp h']
          exact .inl ⟨z, ks, sp, ss, nm, _, _, _, rfl, gM, .inr (.inl fun e => by have := congrArg Str.length e; omega)⟩
    obtain ⟨os, hos, ol, rfl⟩ := eρ
    refine wss_pub 8 rfl (wss_cons (ws_for rfl (wi_list (we_addL ?_))))
    repeat walk_at "v"
    refine we_addS (we_ix ?_)
    repeat walk_at "v"
    refine ⟨_, _, rfl, item_tup (i := 0) rfl, ?_⟩
    refine we_ix ?_
    repeat walk_at "v"
    refine ⟨_, _, rfl, item_tup (i := 1) rfl, _, _, rfl, rfl, by rw [sizeLine_eq]; omega, ?_⟩
    repeat walk_at "v"
    refine we_ix ?_
    repeat walk_at "v"
    refine ⟨_, _, rfl, item_tup (i := 0) rfl, ?_⟩
    refine we_ix ?_
    repeat walk_at "v"
    refine ⟨_, _, rfl, item_tup (i := 1) rfl, ?_⟩
    refine we_ix ?_
    repeat walk_at "v"
    refine ⟨_, _, rfl, item_tup (i := 2) rfl, ?_⟩
    refine was_nil (was_nil ⟨_, _, rfl, rfl, by show os.length + 4 ≤ _; omega, ?_⟩)
    refine ⟨_, rfl, fun i ρ' => ∃ o9 : Option Sv, ρ' = [some (.val (.own 1)), some (.val (rawD z ks sp ss)), some (.val (mak z ks sp ss nm)), some (.val (fil (mak z ks sp ss nm) h p t)), some (.val (vsT h p t)), some (.val (.str nm)), some (.val (fil (mak z ks sp ss nm) h p t)), some (.val (.str (one a))), some (.val (.lst os)), o9, none], ⟨_, rfl⟩, fun i d ρ' hi hI => ?_, fun ρ' hI => ?_⟩
    · obtain ⟨o9, rfl⟩ := hI
      have ho : otherF z ks sp ss h p t d := by
        rcases List.mem_append.mp (List.mem_of_getElem? hi) with h' | h'
        · exact hos d h'
        · simp only [List.mem_cons, List.not_mem_nil, or_false] at h'
          rcases h' with rfl | rfl | rfl | rfl
          · exact .inr (.inl rfl)
          · exact .inr (.inr (.inl rfl))
          · exact .inr (.inr (.inr (.inl ⟨_, rfl⟩)))
          · exact .inr (.inr (.inr (.inr ⟨_, rfl⟩)))
      refine wg_name 9 hN rfl ?_
      refine wss_one (ws_if (wt_wp (wp_or (wt_notB (other_eq FA (hr.mono (by decide)) gM ho (fun Q hq => by (repeat walk_at "v"); exact hq) (fun Q hq => by (repeat walk_at "v"); exact hq) _ ?_)))))
      repeat walk_at "v"
      refine ⟨_, _, rfl, rfl, _, rfl, fun e => Bool.noConfusion e, fun _ => ?_⟩
      refine wp_or1 (wt_notB (self_eq FA (hr.mono (by decide)) gM (fun Q hq => by (repeat walk_at "v"); exact hq) (fun Q hq => by (repeat walk_at "v"); exact hq) _ ?_))
      repeat walk_at "v"
      exact ⟨_, _, rfl, rfl, _, rfl, fun e => Bool.noConfusion e, fun _ => wss_nil ⟨_, rfl⟩⟩
    · obtain ⟨o9, rfl⟩ := hI
      refine wss_one (ws_ret ?_)
      repeat walk_at "v"
      exact k
end
section
set_option maxHeartbeats 16000000
open PySem PySem.Spec PyProof.Rows L2 Vl
variable {cls : Nat → Addr} {P : Program} {w : World} {K : PySem.W.Frag} {mg : Str → Option Value} {base : Heap}
/-! ### _law_bad_numbers -/
abbrev s_badn : Stmt := top 80
abbrev badnN : List Str := ["_law_draw_here", "_law_thing", "_law_n", "_law_which"]
theorem sc_badn : FnScope badnN ["_law_draw_here", "_law_thing"] (defScope s_badn) := ⟨rfl, rfl, rfl, by decide +kernel, rfl, by decide +kernel, by decide +kernel⟩
theorem nv_sc_badn : NmOk badnN (defScope s_badn) 4 := ⟨by decide +kernel⟩
structure badN (d : D) : Prop where
  dt : dat d = true
  no : numB d = false
  rep : repD d
theorem badN_int {i : Int} (h : i < 1) (hb : i.natAbs ≤ 10 ^ 39) : badN (.int i) := ⟨rfl, decide_eq_false (by omega), rep_int hb⟩
theorem two_ok {a b : Str} (ha : codeOk a) (hb : codeOk b) : eqOk (.tup [.str a, .str b]) ∧ eqB (.tup [.str a, .str b]) (.tup [.str a, .str b]) = true :=
  ⟨(eqOk_strs (xs := [a, b]) (by show 2 ≤ 1000; decide) (fun x hx => by
    simp only [List.mem_cons, List.not_mem_nil, or_false] at hx
    rcases hx with rfl | rfl
    · exact ha
    · exact hb)).2, (eqB_strs [a, b]).2⟩
theorem code_lit (k : Nat) (hk : k ∈ errs4) : codeOk (errN4 k) := by
  have : ∀ k ∈ errs4, (errN4 k).length ≤ 1000 ∧ ∀ n ∈ (errN4 k).cps.toList, n < 0x110000 := by decide +kernel
  exact this k hk
@[irreducible] def fs_badn : FS := fun ds rt _ => ∃ z ks sp ss nm h p t, ds = [.own 1, fil (mak z ks sp ss nm) h p t] ∧ goodM z ks sp ss nm ∧ vOk nm h p t ∧ rt (.bl true)
theorem ok_badn {f : Addr} {fd : FuncData} (nb : NB mg) (d1 : Df P w K mg base cls "_law_great" 3 ["_law_draw_here"] fs_great) (d3 : DfG P w K mg base cls "_law_asked" 11 ["_law_thing", "_law_which", "_law_n"] fs_askedF)
    (F : Fun K "_law_bad_numbers" "_law_bad_numbers" s_badn f fd) : FnG P w K mg base (L2N.CX P w) 12 f fd ["_law_draw_here", "_law_thing"] (spOf cls fs_badn) := by
  have hV := nv_sc_badn
  refine def_okG F sc_badn (fun ds rt ex h => ?_) (fun cdv A outer s H E W R ds rt ex hr hG h => ?_)
  · unfold fs_badn at h
    obtain ⟨_, _, _, _, _, _, _, _, rfl, _⟩ := h
    rfl
  · unfold fs_badn at h
    obtain ⟨z, ks, sp, ss, nm, h, p, t, rfl, gM, gv, k⟩ := h
    have hN := sc_badn.nd
    have hu : (A.deeper (envOfC "_law_bad_numbers" (defScope s_badn) s.heap.objs.size f cdv)).units + 64 < cLine := by have := hr.un; omega
    refine wss_cons (ws_for rfl (wi_list ?_))
    repeat walk_at "v"
    refine ⟨1, rfl, ?_⟩
    repeat walk_at "v"
    refine we_call d1 (hr.mono (by decide)) ?_
    repeat walk_at "v"
    refine ⟨rfl, fun n n1 nb' => ⟨_, rfl, ?_⟩⟩
    repeat walk_at "v"
    refine ⟨7, rfl, ?_⟩
    have all : ∀ d ∈ [D.int 0, .bl true, .int (-1), .bl false, .non, .str "1", .int (-(n : Int)), .tup [.int 1], .lst [.int 2], .str "", .str "A", .int (-7)], badN d := fun d hd => by
      simp only [List.mem_cons, List.not_mem_nil, or_false] at hd
      rcases hd with rfl | rfl | rfl | rfl | rfl | rfl | rfl | rfl | rfl | rfl | rfl | rfl
      · exact badN_int (by decide) (by decide)
      · exact ⟨rfl, rfl, rep_bl _⟩
      · exact badN_int (by decide) (by decide)
      · exact ⟨rfl, rfl, rep_bl _⟩
      · exact ⟨rfl, rfl, rep_non⟩
      · exact ⟨rfl, rfl, rep_str ⟨by decide +kernel, by decide +kernel⟩ (by decide +kernel)⟩
      · exact badN_int (by omega) (by rw [Int.natAbs_neg]; exact nb')
      · exact ⟨rfl, rfl, (rep_one 1 (.inl rfl)).1⟩
      · exact ⟨rfl, rfl, (rep_one 2 (.inr rfl)).2⟩
      · exact ⟨rfl, rfl, rep_str ⟨by decide +kernel, by decide +kernel⟩ (by decide +kernel)⟩
      · exact ⟨rfl, rfl, rep_str ⟨by decide +kernel, by decide +kernel⟩ (by decide +kernel)⟩
      · exact badN_int (by decide) (by decide)
    refine ⟨_, rfl, fun i ρ' => ∃ o2 o3 : Option Sv, ρ' = [some (.val (.own 1)), some (.val (fil (mak z ks sp ss nm) h p t)), o2, o3], ⟨_, _, rfl⟩, fun i d ρ' hi hI => ?_, fun ρ' hI => ?_⟩
    · obtain ⟨o2, o3, rfl⟩ := hI
      have hb := all d (List.mem_of_getElem? hi)
      refine wg_name 2 hN rfl ?_
      refine wss_one (ws_for rfl (wi_list ?_))
      repeat walk_at "v"
      refine ⟨_, rfl, fun j ρ' => ∃ o3 : Option Sv, ρ' = [some (.val (.own 1)), some (.val (fil (mak z ks sp ss nm) h p t)), some (.val d), o3], ⟨_, rfl⟩, fun j e ρ' hj hJ => ?_, fun ρ' hJ => ?_⟩
      · obtain ⟨o3, rfl⟩ := hJ
        obtain ⟨wh, rfl, w2⟩ : ∃ wh : Nat, e = .int (wh : Nat) ∧ wh ≤ 2 := by
          have := List.mem_of_getElem? hj
          simp only [List.mem_cons, List.not_mem_nil, or_false] at this
          rcases this with rfl | rfl | rfl
          · exact ⟨2, rfl, by decide⟩
          · exact ⟨0, rfl, by decide⟩
          · exact ⟨1, rfl, by decide⟩
        refine wg_name 3 hN rfl ?_
        refine wss_one (ws_if (wt_neD (hr.mono (by decide)) (we_callG hG d3 hr ?_)))
        repeat walk_at "v"
        unfold fs_askedF
        refine ⟨z, ks, sp, ss, nm, h, p, t, d, wh, rfl, w2, gM, gv, hb.dt, fun _ => ⟨hb.rep, ?_⟩, fun n n1 en => by have := hb.no; rw [en] at this; have := of_decide_eq_false (show decide ((1 : Int) ≤ (n : Int)) = false from this); omega⟩
        refine we_tup (we_str (we_repr nb hG hu ?_))
        repeat walk_at "v"
        have tw := two_ok (code_lit 10 (by decide)) hb.rep.cd
        refine ⟨hb.rep.ok, was_nil ⟨tw.1, tw.1, ?_⟩⟩
        rw [show eqB (toldE4 10 d) (.tup [.str "BadNumber", .str (pyOf d).shown]) = true from tw.2]
        exact ⟨fun e => Bool.noConfusion e, fun _ => wss_nil ⟨_, rfl⟩⟩
      · obtain ⟨o3, rfl⟩ := hJ
        exact ⟨_, _, rfl⟩
    · obtain ⟨o2, o3, rfl⟩ := hI
      refine wss_one (ws_ret ?_)
      repeat walk_at "v"
      exact k
end
section
set_option maxHeartbeats 16000000
open PySem PySem.Spec PyProof.Rows L2 Vl
variable {cls : Nat → Addr} {P : Program} {w : World} {K : PySem.W.Frag} {mg : Str → Option Value} {base : Heap}
/-! ### _law_bad_word -/
abbrev s_badw : Stmt := top 81
abbrev badwN : List Str := ["_law_draw_here", "_law_names_here", "_law_word", "_law_is_part", "_law_strangers", "_law_strange", "_law_at", "_law_name", "_law_odd", "_law_letter"]
theorem sc_badw : FnScope badwN ["_law_draw_here", "_law_names_here", "_law_word", "_law_is_part"] (defScope s_badw) := ⟨rfl, rfl, rfl, by decide +kernel, rfl, by decide +kernel, by decide +kernel⟩
theorem nv_sc_badw : NmOk badwN (defScope s_badw) 9 := ⟨by decide +kernel⟩
theorem nowF {x nm : Str} {m : Nat} {a : Int} (h : m ∈ x.cps.toList) (hm : m ∉ nm.cps.toList) : wordF (.str x) nm a = false := by
  unfold wordF
  rw [mispD_str]
  by_cases c : a ≤ (x.length : Int) ∧ (x.length : Int) ≤ 20
  · rw [if_pos c]
    cases o : offAt x nm with
    | none =>
      have := List.findIdx?_eq_none_iff.mp o m h
      simp [hm] at this
    | some i => rfl
  · rw [if_neg c]
    rfl
theorem nowF_len {x nm : Str} {a : Int} (h : ¬ (a ≤ (x.length : Int) ∧ (x.length : Int) ≤ 20)) : wordF (.str x) nm a = false := by
  unfold wordF
  rw [mispD_str, if_neg h]
  rfl
structure badW (nm : Str) (a : Int) (d : D) : Prop where
  tx : txtOk d
  no : wordF d nm a = false
def leastW (b : Bool) : Int := if b then 1 else 0
def fs_badw : FS := fun ds rt _ => ∃ (nm x : Str) (b : Bool), ds = [.own 1, .str nm, .str x, .bl b] ∧ 1 ≤ nm.length ∧ nm.length ≤ 4 ∧ (∀ n ∈ nm.cps.toList, n ∈ capitals) ∧ x.length ≤ 20 ∧ ∀ d, badW nm (leastW b) d → rt d
theorem ok_badw {f : Addr} {fd : FuncData} (nb : NB mg) (d1 : Df P w K mg base cls "_law_pick" 2 ["_law_draw_here", "_law_many"] fs_pick) (F : Fun K "_law_bad_word" "_law_bad_word" s_badw f fd) : FnOk P w K mg base (L2N.CX P w) 3 f fd ["_law_draw_here", "_law_names_here", "_law_word", "_law_is_part"] (spOf cls fs_badw) := by
  have hV := nv_sc_badw
  refine def_ok F sc_badw (fun ds rt ex h => ?_) (fun cdv A outer s H E W R ds rt ex hr h => ?_)
  · obtain ⟨_, _, _, rfl, _⟩ := h
    rfl
  · obtain ⟨nm, x, b, rfl, n1, n4, nc, xl, k⟩ := h
    have hN := sc_badw.nd
    have l26 : capitals.length = 26 := by decide +kernel
    have nd26 : capitals.Nodup := by decide +kernel
    refine wss_cons (ws_lcIf 4 9 hN (wi_str ?_))
    repeat walk_at "v"
    refine ⟨CAPS, rfl, by rw [signs_len]; show 26 ≤ _; omega, fun i acc => acc = (((capitals.take i).filter fun n => !decide (n ∈ nm.cps.toList)).map one).map D.str, rfl, fun i d acc hi ha => ?_, fun acc ha => .inl ?_⟩
    · obtain ⟨n, hn, rfl⟩ := signs_get hi
      replace hn : capitals[i]? = some n := hn
      subst ha
      refine ⟨_, rfl, fun s0 H0 C cl fp => wt_notIn ?_⟩
      repeat walk_at "v"
      refine ⟨n, nm, rfl, rfl, _, rfl, fun e s0 H0 C cl fp => ?_, fun e => ?_⟩
      · replace e : (!decide (n ∈ nm.cps.toList)) = true := e
        repeat walk_at "v"
        show _ = (((capitals.take (i + 1)).filter fun n => !decide (n ∈ nm.cps.toList)).map one).map D.str
        rw [take_get hn, List.filter_append, List.map_append, List.map_append]
        rw [show [n].filter (fun n => !decide (n ∈ nm.cps.toList)) = [n] by rw [List.filter_cons, if_pos e]; rfl]
        rfl
      · replace e : (!decide (n ∈ nm.cps.toList)) = false := e
        show _ = (((capitals.take (i + 1)).filter fun n => !decide (n ∈ nm.cps.toList)).map one).map D.str
        rw [take_get hn, List.filter_append]
        rw [show [n].filter (fun n => !decide (n ∈ nm.cps.toList)) = [] by rw [List.filter_cons, if_neg (by rw [e]; decide)]; rfl]
        rw [List.append_nil]
    subst ha
    rw [signs_len, show CAPS.length = capitals.length from rfl, List.take_length]
    generalize hl : capitals.filter (fun n => !decide (n ∈ nm.cps.toList)) = l
    have ml : ∀ n ∈ l, n ∈ capitals ∧ n ∉ nm.cps.toList := fun n hn => by
      rw [← hl] at hn
      have := List.mem_filter.mp hn
      exact ⟨this.1, by simpa using this.2⟩
    have len1 : 1 ≤ l.length := by
      have e1 := filter_two capitals (fun n => !decide (n ∈ nm.cps.toList))
      have sub : (capitals.filter fun n => !(!decide (n ∈ nm.cps.toList))).length ≤ nm.cps.toList.length := by
        refine (List.Nodup.length_le_of_subset ?_ fun n hn => ?_)
        · exact nd26.filter _
        · have := (List.mem_filter.mp hn).2
          simpa using this
      rw [← Vl.len_list] at sub
      rw [hl, l26] at e1
      omega
    have len2 : l.length ≤ 26 := by rw [← hl, ← l26]; exact List.length_filter_le _ _
    -- a strange sign
    refine wss_cons (ws_set 5 hN rfl (we_ix (we_lst (we_ix ?_))))
    repeat walk_at "v"
    refine we_call d1 hr ?_
    repeat walk_at "v"
    refine ⟨l.length, by show some ((l.map one).map D.str).length = _; rw [List.length_map, List.length_map], _, rfl, by omega, fun r r0 r1 => ?_⟩
    obtain ⟨c, ec⟩ : ∃ c, l[r.toNat]? = some c := ⟨_, List.getElem?_eq_getElem (by omega)⟩
    have it : itemD (.lst ((l.map one).map D.str)) ((r.toNat : Nat) : Int) = some (.str (one c)) := item_lst (by rw [List.getElem?_map, List.getElem?_map, ec]; rfl)
    rw [Int.toNat_of_nonneg r0] at it
    refine ⟨r, _, rfl, it, ?_⟩
    have cno := (ml c (List.mem_of_getElem? ec)).2
    have ne : nm.cps.toList ≠ [] := fun e => by have := Vl.len_list (z := nm); rw [e] at this; simp at this; omega
    obtain ⟨q, eq⟩ : ∃ q, nm.cps.toList.getLast? = some q := ⟨_, List.getLast?_eq_some_getLast ne⟩
    have qc := nc q (List.mem_of_getLast? eq)
    have qr := cap_range q qc
    refine we_lower (we_ix ?_)
    repeat walk_at "v"
    refine ⟨1, rfl, -1, .str (one q), rfl, ?_, ?_⟩
    · show (if nm.length ≤ sizeLine then (L2.atI nm.cps.toList (-1)).map fun n => D.str ⟨#[n]⟩ else none) = _
      rw [if_pos (by rw [sizeLine_eq]; omega), atI_last eq]
      rfl
    refine ⟨one q, rfl, by show 1 ≤ _; decide, ?_⟩
    rw [lower_cap q qc]
    repeat walk_at "v"
    refine we_call d1 hr ?_
    repeat walk_at "v"
    refine ⟨4, rfl, by decide, fun u u0 u1 => ?_⟩
    have capno : ∀ m : Nat, (m < 65 ∨ 90 < m) → m ∉ nm.cps.toList := fun m hm h => by have := cap_range m (nc m h); omega
    obtain ⟨sd, isd, mm, rfl, mno⟩ := pick_of (xs := [.str (one c), .str (one (q + 32)), .str (one 46), .str (one 32)]) (n := 4) (P := fun d => ∃ m, d = .str (one m) ∧ m ∉ nm.cps.toList) rfl (fun d hd => by
      simp only [List.mem_cons, List.not_mem_nil, or_false] at hd
      rcases hd with rfl | rfl | rfl | rfl
      · exact ⟨c, rfl, cno⟩
      · exact ⟨_, rfl, capno _ (by omega)⟩
      · exact ⟨46, rfl, capno _ (by omega)⟩
      · exact ⟨32, rfl, capno _ (by omega)⟩) u0 (by omega)
    refine ⟨u, _, rfl, isd, ?_⟩
    have m1 : (one mm).length = 1 := rfl
    have mmem : mm ∈ (one mm).cps.toList := by simp [one]
    refine wss_cons (ws_set 6 hN rfl (we_call d1 hr ?_))
    repeat walk_at "v"
    refine we_add ?_
    repeat walk_at "v"
    refine ⟨x.length, len_str (by omega), ?_⟩
    repeat walk_at "v"
    refine ⟨_, _, rfl, rfl, _, rfl, by omega, fun at0 a0 a1 => ?_⟩
    obtain ⟨j, rfl⟩ : ∃ j : Nat, at0 = (j : Nat) := ⟨at0.toNat, by omega⟩
    refine wss_cons (ws_set 7 hN rfl (we_ix ?_))
    repeat walk_at "v"
    refine we_call d1 hr ?_
    repeat walk_at "v"
    refine ⟨nm.length, len_str (by omega), _, rfl, by omega, fun r' r0' r1' => ?_⟩
    obtain ⟨na, hna, _, itn⟩ := pick_sgn (z := nm) (by omega) r0' (by omega)
    refine ⟨r', _, rfl, itn, ?_⟩
    have nl1 : (one na).length = 1 := rfl
    have rest : WSs (cyOf P w K mg base badwN "_law_bad_word" (defScope s_badw) f cdv A outer s H E W R) ((defBody s_badw).drop 5) [some (.val (.own 1)), some (.val (.str nm)), some (.val (.str x)), some (.val (.bl b)), some (.val (.lst ((l.map one).map D.str))), some (.val (.str (one mm))), some (.val (.int (j : Nat))), some (.val (.str (one na))), none, none] { nx := fun _ => rt .non, rt := fun _ => rt, ex := fun _ => ex } := by
      have xsz : x.length ≤ sizeLine := by rw [sizeLine_eq]; omega
      have preL : (cutS x none (some (j : Nat))).length ≤ x.length := cutS_length _ _ _
      have sufL : (cutS x (some (j : Nat)) none).length ≤ x.length := cutS_length _ _ _
      have suf1 : (cutS x (some (1 : Int)) none).length ≤ x.length := cutS_length _ _ _
      have m21 : (Txt.mul (one na) 21).length = 21 := mul_len (one na) 21
      refine wss_cons (ws_set 8 hN rfl (we_lst (we_addS (we_addS (we_sliceS ?_)))))
      repeat walk_at "v"
      refine ⟨x, rfl, xsz, ?_⟩
      show Vl.WE _ _ _ _ _
      repeat walk_at "v"
      refine ⟨_, rfl, ?_⟩
      repeat walk_at "v"
      refine ⟨_, _, rfl, rfl, by rw [sizeLine_eq, m1]; omega, ?_⟩
      refine we_sliceS ?_
      repeat walk_at "v"
      refine ⟨x, rfl, xsz, ?_⟩
      show Vl.WE _ _ _ _ _
      repeat walk_at "v"
      refine ⟨_, rfl, _, _, rfl, rfl, by rw [app_len, sizeLine_eq, m1]; omega, ?_⟩
      refine we_mulS ?_
      repeat walk_at "v"
      refine ⟨_, _, rfl, rfl, mulOk_of (k := 21) (by show 1 ≤ _; omega) (by decide), ?_⟩
      repeat walk_at "v"
      refine we_addS (we_sliceS ?_)
      repeat walk_at "v"
      refine ⟨x, rfl, xsz, ?_⟩
      show Vl.WE _ _ _ _ _
      repeat walk_at "v"
      refine ⟨1, rfl, ?_⟩
      repeat walk_at "v"
      refine ⟨_, _, rfl, rfl, by rw [sizeLine_eq, m1]; omega, ?_⟩
      repeat walk_at "v"
      obtain ⟨od, eo⟩ : ∃ od, od = [D.str (cutS x none (some (j : Int)) ++ one mm ++ cutS x (some (j : Int)) none), .str (Txt.mul (one na) 21), .non, .int 5, .bl true, .tup [.str (one na)], .lst [.str (one na)], .str (cutS x (some 1) none ++ one mm), .str (one mm)] := ⟨_, rfl⟩
      have all : ∀ d ∈ od, badW nm (leastW b) d := fun d hd => by
        have tx : ∀ y : Str, y.length ≤ 1000 → txtOk (.str y) := fun y hy => ⟨rfl, fun v e => by cases e; omega⟩
        rw [eo] at hd
        simp only [List.mem_cons, List.not_mem_nil, or_false] at hd
        rcases hd with rfl | rfl | rfl | rfl | rfl | rfl | rfl | rfl | rfl
        · exact ⟨tx _ (by rw [app_len, app_len, m1]; omega), nowF (m := mm) (by rw [app_list, app_list]; simp [one]) mno⟩
        · exact ⟨tx _ (by rw [m21]; decide), nowF_len (by rw [m21]; omega)⟩
        · exact ⟨⟨rfl, fun v e => by cases e⟩, rfl⟩
        · exact ⟨⟨rfl, fun v e => by cases e⟩, rfl⟩
        · exact ⟨⟨rfl, fun v e => by cases e⟩, rfl⟩
        · exact ⟨⟨rfl, fun v e => by cases e⟩, rfl⟩
        · exact ⟨⟨rfl, fun v e => by cases e⟩, rfl⟩
        · exact ⟨tx _ (by rw [app_len, m1]; omega), nowF (m := mm) (by rw [app_list]; simp [one]) mno⟩
        · exact ⟨tx _ (by rw [m1]; decide), nowF mmem mno⟩
      have ol : od.length = 9 := by rw [eo]; rfl
      refine wss_at (ρ := [some (.val (.own 1)), some (.val (.str nm)), some (.val (.str x)), some (.val (.bl b)), some (.val (.lst ((l.map one).map D.str))), some (.val (.str (one mm))), some (.val (.int (j : Nat))), some (.val (.str (one na))), some (.val (.lst od)), none]) (by rw [eo]; rfl) ?_
      refine wss_one (ws_ret (we_ix ?_))
      repeat walk_at "v"
      refine we_call d1 hr ?_
      repeat walk_at "v"
      refine ⟨od.length, rfl, _, rfl, by omega, fun v v0 v1 => ?_⟩
      obtain ⟨dd, idd, hdd⟩ := pick_of (xs := od) (n := od.length) (P := fun d => badW nm (leastW b) d) rfl all v0 (by omega)
      exact ⟨v, dd, rfl, idd, k dd hdd⟩
    refine wss_cons (ws_if (wt_wp (wp_and (wt_val ?_))))
    repeat walk_at "v"
    refine ⟨b, rfl, fun eb => ?_, fun _ => ⟨fun e => Bool.noConfusion e, fun _ => wss_nil rest⟩⟩
    refine wp_and1 (wt_eq (we_call d1 hr ?_))
    repeat walk_at "v"
    refine ⟨4, rfl, by decide, fun v v0 v1 => ?_⟩
    repeat walk_at "v"
    refine eq_int ⟨_, rfl, fun _ => ?_, fun _ => wss_nil rest⟩
    refine wss_one (ws_ret ?_)
    repeat walk_at "v"
    refine k _ ⟨⟨rfl, fun v e => by cases e; show 0 ≤ _; omega⟩, nowF_len ?_⟩
    rw [eb]
    show ¬ ((1 : Int) ≤ ((("" : Str).length : Nat) : Int) ∧ _)
    have : ("" : Str).length = 0 := rfl
    rw [this]
    omega
end
section
set_option maxHeartbeats 16000000
open PySem PySem.Spec PyProof.Rows L2 Vl
variable {cls : Nat → Addr} {P : Program} {w : World} {K : PySem.W.Frag} {mg : Str → Option Value} {base : Heap}
/-! ### _law_bad_words -/
abbrev s_badws : Stmt := top 82
abbrev badwsN : List Str := ["_law_draw_here", "_law_told", "_law_values", "_law_names_here", "_law_labels", "_law_mask", "_law_given", "_law_due", "_law_at"]
theorem sc_badws : FnScope badwsN ["_law_draw_here", "_law_told", "_law_values", "_law_names_here"] (defScope s_badws) := ⟨rfl, rfl, rfl, by decide +kernel, rfl, by decide +kernel, by decide +kernel⟩
theorem nv_sc_badws : NmOk badwsN (defScope s_badws) 9 := ⟨by decide +kernel⟩
def pw2 : Nat → Int
  | 0 => 1
  | 1 => 2
  | _ => 4
def bitM (m : Int) (j : Nat) : Bool := decide ((m.fdiv (pw2 j)).fmod 2 = 1)
def labW : Nat → Str
  | 0 => "head"
  | 1 => "part"
  | _ => "tail"
def dueW (m : Int) : Nat → Str
  | 0 => ""
  | i + 1 => if dueW m i = "" then (if bitM m i then labW i else "") else dueW m i
theorem due_first {m : Int} {nm : Str} {d0 d1 d2 : D} (h0 : wordF d0 nm 0 = !bitM m 0) (h1 : wordF d1 nm 1 = !bitM m 1) (h2 : wordF d2 nm 0 = !bitM m 2) (h : bitM m 0 = true ∨ bitM m 1 = true ∨ bitM m 2 = true) : firstF nm d0 d1 d2 = some (dueW m 3) := by
  have n1 : ("head" : Str) ≠ "" := by decide +kernel
  have n2 : ("part" : Str) ≠ "" := by decide +kernel
  unfold firstF
  rw [h0, h1, h2]
  cases b0 : bitM m 0 <;> cases b1 : bitM m 1 <;> cases b2 : bitM m 2 <;> simp [dueW, b0, b1, b2, labW, n1, n2] at h ⊢
@[irreducible] def fs_badws : FS := fun ds rt _ => ∃ z ks sp ss nm h p t, ds = [.own 1, mak z ks sp ss nm, vsT h p t, .str nm] ∧ goodM z ks sp ss nm ∧ vOk nm h p t ∧ rt (.bl true)
theorem ok_badws {f : Addr} {fd : FuncData} (nb : NB mg) (d1 : Df P w K mg base cls "_law_bad_word" 3 ["_law_draw_here", "_law_names_here", "_law_word", "_law_is_part"] fs_badw) (d3 : DfG P w K mg base cls "_law_made" 6 ["_law_told", "_law_values"] fs_madeF)
    (F : Fun K "_law_bad_words" "_law_bad_words" s_badws f fd) : FnG P w K mg base (L2N.CX P w) 7 f fd ["_law_draw_here", "_law_told", "_law_values", "_law_names_here"] (spOf cls fs_badws) := by
  have hV := nv_sc_badws
  refine def_okG F sc_badws (fun ds rt ex h => ?_) (fun cdv A outer s H E W R ds rt ex hr hG h => ?_)
  · unfold fs_badws at h
    obtain ⟨_, _, _, _, _, _, _, _, rfl, _⟩ := h
    rfl
  · unfold fs_badws at h
    obtain ⟨z, ks, sp, ss, nm, h, p, t, rfl, gM, gv, k⟩ := h
    have hN := sc_badws.nd
    have hl := gv.hl
    have pl := gv.pl
    have p1 := gv.p1
    have tl := gv.tl
    have hu : (A.deeper (envOfC "_law_bad_words" (defScope s_badws) s.heap.objs.size f cdv)).units + 64 < cLine := by have := hr.un; omega
    have nml : 1 ≤ nm.length ∧ nm.length ≤ 4 := by
      have := gM.gn.1
      have := gM.gk.1.1
      have := gM.gk.1.2.1
      omega
    have nmc : ∀ n ∈ nm.cps.toList, n ∈ capitals := fun n hn => gM.gn.2.2.2 n hn
    refine wss_cons (ws_set 4 hN rfl (we_lst ?_))
    repeat walk_at "v"
    refine wss_cons (ws_for rfl (wi_list ?_))
    repeat walk_at "v"
    refine ⟨_, rfl, fun i ρ' => ∃ o5 o6 o7 o8 : Option Sv, ρ' = [some (.val (.own 1)), some (.val (mak z ks sp ss nm)), some (.val (vsT h p t)), some (.val (.str nm)), some (.val (.lst [.str "head", .str "part", .str "tail"])), o5, o6, o7, o8], ⟨_, _, _, _, rfl⟩, fun i d ρ' hi hI => ?_, fun ρ' hI => ?_⟩
    · obtain ⟨o5, o6, o7, o8, rfl⟩ := hI
      obtain ⟨m, rfl, mb⟩ : ∃ m : Int, d = .int m ∧ (bitM m 0 = true ∨ bitM m 1 = true ∨ bitM m 2 = true) := by
        have := List.mem_of_getElem? hi
        simp only [List.mem_cons, List.not_mem_nil, or_false] at this
        rcases this with rfl | rfl | rfl | rfl | rfl | rfl | rfl <;> exact ⟨_, rfl, by decide +kernel⟩
      refine wg_name 5 hN rfl ?_
      refine wss_cons (ws_own 6 hN rfl ?_)
      refine wss_cons (ws_set 7 hN rfl ?_)
      repeat walk_at "v"
      refine wss_cons (ws_for rfl (wi_range1 (nb _ (by decide)) ?_))
      repeat walk_at "v"
      refine ⟨3, rfl, by decide, by decide, fun j ρ' => ∃ (gs : List D) (o8 : Option Sv), gs.length = j ∧ (∀ i d, gs[i]? = some d → txtOk d ∧ wordF d nm (leastW (decide (i = 1))) = !bitM m i) ∧ ρ' = [some (.val (.own 1)), some (.val (mak z ks sp ss nm)), some (.val (vsT h p t)), some (.val (.str nm)), some (.val (.lst [.str "head", .str "part", .str "tail"])), some (.val (.int m)), some (.lst gs), some (.val (.str (dueW m j))), o8], ⟨[], _, rfl, fun i d e => by simp at e, rfl⟩, fun j d ρ' hj hJ => ?_, fun ρ' hJ => ?_⟩
      · obtain ⟨jl, rfl⟩ := rangeD_get hj
        have jl : j < 3 := jl
        obtain ⟨gs, o8, gl, gg, rfl⟩ := hJ
        rw [Int.zero_add]
        obtain ⟨x, ex', x20, xm, xg⟩ : ∃ x : Str, [D.str h, .str p, .str t][j]? = some (.str x) ∧ x.length ≤ 20 ∧ (∀ n ∈ x.cps.toList, n ∈ nm.cps.toList) ∧ wordF (.str x) nm (leastW (decide (j = 1))) = true := by
          have good : ∀ (x : Str) (a : Int), a ≤ (x.length : Int) → x.length ≤ 20 → (∀ n ∈ x.cps.toList, n ∈ nm.cps.toList) → wordF (.str x) nm a = true := fun x a h1 h2 h3 => by
            unfold wordF
            rw [mispD_str, if_pos ⟨h1, by omega⟩]
            have : offAt x nm = none := List.findIdx?_eq_none_iff.mpr fun m hm => by simp [h3 m hm]
            rw [this]
            rfl
          match j, jl with
          | 0, _ => exact ⟨h, rfl, hl, gv.hm, good h 0 (by omega) hl gv.hm⟩
          | 1, _ => exact ⟨p, rfl, pl, gv.pm, good p 1 (by omega) pl gv.pm⟩
          | 2, _ => exact ⟨t, rfl, tl, gv.tm, good t 0 (by omega) tl gv.tm⟩
        have ixp : itemD (.lst [D.int 1, .int 2, .int 4]) ((j : Nat) : Int) = some (.int (pw2 j)) := by
          match j, jl with
          | 0, _ => rfl
          | 1, _ => rfl
          | 2, _ => rfl
        have pw0 : pw2 j ≠ 0 := by
          match j, jl with
          | 0, _ => decide
          | 1, _ => decide
          | 2, _ => decide
        refine wg_name 8 hN rfl ?_
        refine wss_one (ws_if (wt_eq (we_mod (we_int1 nb (we_fdiv ?_)))))
        repeat walk_at "v"
        refine we_ix (we_lst ?_)
        repeat walk_at "v"
        refine ⟨_, _, rfl, ixp, ?_⟩
        have pwb : (pw2 j).natAbs < 1073741824 := by
          match j, jl with
          | 0, _ => decide
          | 1, _ => decide
          | 2, _ => decide
        have dj : decide (((j : Nat) : Int) = 1) = decide (j = 1) := by
          rw [decide_eq_decide]
          omega
        have ixl : itemD (.lst [D.str "head", .str "part", .str "tail"]) ((j : Nat) : Int) = some (.str (labW j)) := by
          match j, jl with
          | 0, _ => rfl
          | 1, _ => rfl
          | 2, _ => rfl
        have grow : ∀ d : D, txtOk d ∧ wordF d nm (leastW (decide (j = 1))) = !bitM m j → ∀ i e, (gs ++ [d])[i]? = some e → txtOk e ∧ wordF e nm (leastW (decide (i = 1))) = !bitM m i := fun d hd i e he => by
          by_cases hi : i < gs.length
          · rw [List.getElem?_append_left hi] at he
            exact gg i e he
          · have hi2 : i = j := by
              have := (List.getElem?_eq_some_iff.mp he).1
              rw [List.length_append, List.length_singleton] at this
              omega
            subst hi2
            rw [List.getElem?_append_right (by omega), gl, Nat.sub_self] at he
            cases he
            exact hd
        refine ⟨_, _, rfl, rfl, ⟨pw0, pwb⟩, _, rfl, ?_⟩
        repeat walk_at "v"
        refine ⟨_, _, rfl, rfl, by decide, ?_⟩
        repeat walk_at "v"
        refine eq_int ⟨_, rfl, fun e => ?_, fun e => ?_⟩
        · have e : bitM m j = true := e
          refine wss_cons (ws_app 6 rfl rfl (by rw [gl, sizeLine_eq]; omega) (we_call d1 (hr.mono (by decide)) ?_))
          repeat walk_at "v"
          refine we_ix ?_
          repeat walk_at "v"
          refine ⟨_, _, rfl, item_tup ex', ?_⟩
          refine we_eq ?_
          repeat walk_at "v"
          refine eq_int (was_nil ⟨nm, x, _, rfl, nml.1, nml.2, nmc, x20, fun d hd => ?_⟩)
          rw [dj] at hd
          have gd := grow d ⟨hd.tx, by rw [hd.no, e]; rfl⟩
          refine wss_one (ws_if (wt_eq ?_))
          repeat walk_at "v"
          refine eq_str ⟨_, rfl, fun e1 => ?_, fun e1 => wss_nil ?_⟩
          · have e1 := of_decide_eq_true e1
            refine wss_one (ws_set 7 hN rfl (we_ix ?_))
            repeat walk_at "v"
            refine ⟨_, _, rfl, ixl, gs ++ [d], some (.val (.int (j : Nat))), by rw [List.length_append, gl]; rfl, gd, ?_⟩
            rw [show dueW m (j + 1) = labW j by show (if dueW m j = "" then (if bitM m j then labW j else "") else dueW m j) = _; rw [if_pos e1, e]; rfl]
            rfl
          · have e1 := of_decide_eq_false e1
            refine ⟨gs ++ [d], some (.val (.int (j : Nat))), by rw [List.length_append, gl]; rfl, gd, ?_⟩
            rw [show dueW m (j + 1) = dueW m j by show (if dueW m j = "" then (if bitM m j then labW j else "") else dueW m j) = _; rw [if_neg e1]]
            rfl
        · have e : bitM m j = false := e
          refine wss_one (ws_app 6 rfl rfl (by rw [gl, sizeLine_eq]; omega) (we_ix ?_))
          repeat walk_at "v"
          refine ⟨_, _, rfl, item_tup ex', ?_⟩
          refine ⟨gs ++ [.str x], some (.val (.int (j : Nat))), by rw [List.length_append, gl]; rfl, grow _ ⟨⟨rfl, fun v e => by cases e; omega⟩, by rw [xg, e]; rfl⟩, ?_⟩
          rw [show dueW m (j + 1) = dueW m j by
            show (if dueW m j = "" then (if bitM m j then labW j else "") else dueW m j) = _
            rw [e]
            by_cases c : dueW m j = ""
            · rw [if_pos c, c]; rfl
            · rw [if_neg c]]
          rfl
      · obtain ⟨gs, o8, gl, gg, rfl⟩ := hJ
        have gl : gs.length = 3 := gl
        rw [show (rangeD 0 (Int.toNat 3)).length = 3 from rfl]
        obtain ⟨d0, d1', d2, rfl⟩ : ∃ d0 d1 d2, gs = [d0, d1, d2] := by
          match gs, gl with
          | [a, b, c], _ => exact ⟨a, b, c, rfl⟩
        obtain ⟨t0, w0⟩ := gg 0 d0 rfl
        obtain ⟨t1, w1⟩ := gg 1 d1' rfl
        obtain ⟨t2, w2⟩ := gg 2 d2 rfl
        have ff := due_first (m := m) (nm := nm) w0 w1 w2 mb
        have rw' := rep_word ff
        refine wss_pub 6 rfl (wss_one (ws_if (wt_neD (hr.mono (by decide)) (we_callG hG d3 hr ?_))))
        repeat walk_at "v"
        unfold fs_madeF
        refine ⟨z, ks, sp, ss, nm, d0, d1', d2, _, rfl, .inr rfl, gM, t0, t1, t2, fun w hw => ?_, fun h' p' t' e1 e2 e3 v' => ?_⟩
        · rw [ff] at hw
          have hw := (Option.some.inj hw).symm
          subst hw
          refine we_tup (we_str (we_repr nb hG hu ?_))
          repeat walk_at "v"
          have tw := two_ok (code_lit 17 (by decide)) rw'.cd
          refine ⟨rw'.ok, was_nil ⟨tw.1, tw.1, ?_⟩⟩
          rw [show eqB (toldE4 17 (.str (dueW m 3))) (.tup [.str "BadFile", .str (pyOf (.str (dueW m 3))).shown]) = true from tw.2]
          exact ⟨fun e => Bool.noConfusion e, fun _ => wss_nil ⟨_, _, _, _, rfl⟩⟩
        · exfalso
          subst e1 e2 e3
          have good : ∀ (x : Str) (a : Int), a ≤ (x.length : Int) → x.length ≤ 20 → (∀ n ∈ x.cps.toList, n ∈ nm.cps.toList) → wordF (.str x) nm a = true := fun x a h1 h2 h3 => by
            unfold wordF
            rw [mispD_str, if_pos ⟨h1, by omega⟩]
            have : offAt x nm = none := List.findIdx?_eq_none_iff.mpr fun m hm => by simp [h3 m hm]
            rw [this]
            rfl
          have q1 := v'.p1
          unfold firstF at ff
          rw [good h' 0 (by omega) v'.hl v'.hm, good p' 1 (by omega) v'.pl v'.pm, good t' 0 (by omega) v'.tl v'.tm] at ff
          cases ff
    · obtain ⟨o5, o6, o7, o8, rfl⟩ := hI
      refine wss_one (ws_ret ?_)
      repeat walk_at "v"
      exact k
end
section
set_option maxHeartbeats 16000000
open PySem PySem.Spec PyProof.Rows L2 Vl
variable {cls : Nat → Addr} {P : Program} {w : World} {K : PySem.W.Frag} {mg : Str → Option Value} {base : Heap}
/-! ### the law -/
abbrev s_law4 : Stmt := top 83
abbrev N_law4 : List Str := ["_law_script", "_law_draw_here", "_law_make_here", "_law_names_here", "_law_told", "_law_values", "_law_turned", "_law_thing", "_law_other", "_law_most", "_law_numbers"]
theorem sc_law4 : FnScope N_law4 ["_law_script"] (defScope s_law4) := ⟨rfl, rfl, rfl, by decide +kernel, rfl, by decide +kernel, by decide +kernel⟩
theorem nv_sc_law4 : NmOk N_law4 (defScope s_law4) 11 := ⟨by decide +kernel⟩
structure LawDefs4 (P : Program) (w : World) (K : PySem.W.Frag) (mg : Str → Option Value) (base : Heap) (cls : Nat → Addr) : Prop where
  pick : Df P w K mg base cls "_law_pick" 2 ["_law_draw_here", "_law_many"] fs_pick
  lmake : Df P w K mg base cls "_law_make" 5 ["_law_draw_here", "_law_many_words", "_law_many_kinds", "_law_steady"] fs_lmake
  dk : Dk P w K mg base cls "Make" 26 8 ["words", "kinds", "space", "seats"] (fi_make K)
  all : Df P w K mg base cls "_law_all_names" 1 ["_law_make_here"] fs_all
  strings : Df P w K mg base cls "_law_strings" 4 ["_law_draw_here", "_law_names_here"] fs_strings
  made : DfG P w K mg base cls "_law_made" 6 ["_law_told", "_law_values"] fs_madeF
  great : Df P w K mg base cls "_law_great" 3 ["_law_draw_here"] fs_great
  ntrue : DfG P w K mg base cls "_law_numbers_true" 12 ["_law_make_here", "_law_told", "_law_thing", "_law_values", "_law_numbers"] fs_ntrue
  alike : Df P w K mg base cls "_law_alike_true" 10 ["_law_draw_here", "_law_make_here", "_law_told", "_law_thing", "_law_values", "_law_names_here"] fs_alike
  badn : DfG P w K mg base cls "_law_bad_numbers" 12 ["_law_draw_here", "_law_thing"] fs_badn
  badws : DfG P w K mg base cls "_law_bad_words" 7 ["_law_draw_here", "_law_told", "_law_values", "_law_names_here"] fs_badws
  I : MkI K mg "File" (cls 30)
abbrev poL4 : Po := { nx := fun _ => False, rt := fun _ d => d = .bl true }
abbrev cyL4 (P : Program) (w : World) (K : PySem.W.Frag) (mg : Str → Option Value) (base : Heap) (f : Addr) (cdv : Value) (A : Around) (outer : List Env) (s : Shared) (H H1 : Hp) (E : XK) (W : Wd cls) (R : Addr → Prop) : Cy cls := ⟨cxOf (L2N.CX P w) P w K mg base N_law4 "law" (defScope s_law4) f cdv A outer s H E, W, R, H1⟩
section
variable {f : Addr} {cdv : Value} {A : Around} {outer : List Env} {s : Shared} {H H1 : Hp} {E : XK} {W : Wd cls} {R : Addr → Prop}
theorem law4_a (nb : NB mg) (L : LawDefs4 P w K mg base cls) (hr : Room 12 (A.deeper (envOfC "law" (defScope s_law4) s.heap.objs.size f cdv))) (hG : GX (cyL4 P w K mg base f cdv A outer s H H1 E W R)) :
    WSs (cyL4 P w K mg base f cdv A outer s H H1 E W R) ((defBody s_law4).drop 1) [none, some (.val (.own 1)), none, none, none, none, none, none, none, none, none] poL4 := by
  have hN := sc_law4.nd
  have hV := nv_sc_law4
  refine wss_cons (ws_set 2 hN rfl (we_call L.lmake (hr.mono (by decide)) ?_))
  repeat walk_at "v"
  refine we_add ?_
  repeat walk_at "v"
  refine we_call L.pick (hr.mono (by decide)) ?_
  repeat walk_at "v"
  refine ⟨2, rfl, by decide, fun a a0 a1 => ⟨_, _, rfl, rfl, ?_⟩⟩
  refine we_add ?_
  repeat walk_at "v"
  refine we_call L.pick (hr.mono (by decide)) ?_
  repeat walk_at "v"
  refine ⟨4, rfl, by decide, fun b b0 b1 => ⟨_, _, rfl, rfl, ?_⟩⟩
  obtain ⟨an, rfl⟩ : ∃ n : Nat, a = (n : Int) := ⟨a.toNat, by omega⟩
  obtain ⟨bn, rfl⟩ : ∃ n : Nat, b = (n : Int) := ⟨b.toNat, by omega⟩
  repeat walk_at "v"
  refine ⟨1 + an, 1 + bn, false, by rw [Int.natCast_add, Int.natCast_add]; rfl, ⟨by omega, by omega⟩, ⟨by omega, by omega⟩, fun z ks sp ss g s16 => ?_⟩
  obtain ⟨nm, an⟩ := ex_names g.gk.1
  have gM := g.good an
  have kl := g.kl
  have nl := an.1
  have zl := g.zl
  refine wss_cons (ws_set 3 hN rfl (we_call L.all (hr.mono (by decide)) ?_))
  repeat walk_at "v"
  refine ⟨z, ks, sp, ss, rfl, g.gk.1, fun y hy => ?_⟩
  cases allN_uniq hy an
  refine wss_cons (ws_set 4 hN rfl (we_make L.dk (hr.mono (by decide)) ?_))
  refine we_ix ?_
  repeat walk_at "v"
  refine ⟨_, _, rfl, item_tup (i := 0) rfl, ?_⟩
  refine we_ix ?_
  repeat walk_at "v"
  refine ⟨_, _, rfl, item_tup (i := 1) rfl, ?_⟩
  refine we_ix ?_
  repeat walk_at "v"
  refine ⟨_, _, rfl, item_tup (i := 2) rfl, ?_⟩
  refine we_ix ?_
  repeat walk_at "v"
  refine ⟨_, _, rfl, item_tup (i := 3) rfl, ?_⟩
  unfold fi_make
  refine ⟨_, _, _, _, rfl, ⟨rfl, fun y e => by cases e; omega⟩, okD_le (by decide) (okD_kinds (by omega) gM.eqk), rfl, .inl (okD_le (by decide) (okD_seats gM.sl gM.eqs)), due_ok g.words (tupled_kinds ks) g.gk g.s0 g.s20 an (dueS_ok (tupled_seats ss) (g.gs nm an) ?_)⟩
  refine wss_cons (ws_set 5 hN rfl (we_call L.strings (hr.mono (by decide)) ?_))
  repeat walk_at "v"
  refine ⟨nm, rfl, by omega, by omega, fun h p t gv => ?_⟩
  have hl := gv.hl
  have pl := gv.pl
  have p1 := gv.p1
  have tl := gv.tl
  have gv' : vOk nm t p h := ⟨gv.tl, gv.p1, gv.pl, gv.hl, gv.tm, gv.pm, gv.hm⟩
  have tx : ∀ x : Str, x.length ≤ 20 → txtOk (.str x) := fun x hx => ⟨rfl, fun y e => by cases e; omega⟩
  have none_bad : ∀ h p t : Str, vOk nm h p t → ∀ w, firstF nm (.str h) (.str p) (.str t) = some w → False := fun h p t v w hw => by
    have good : ∀ (x : Str) (a : Int), a ≤ (x.length : Int) → x.length ≤ 20 → (∀ n ∈ x.cps.toList, n ∈ nm.cps.toList) → wordF (.str x) nm a = true := fun x a h1 h2 h3 => by
      unfold wordF
      rw [mispD_str, if_pos ⟨h1, by omega⟩]
      have : offAt x nm = none := List.findIdx?_eq_none_iff.mpr fun m hm => by simp [h3 m hm]
      rw [this]
      rfl
    have q1 := v.p1
    unfold firstF at hw
    rw [good h 0 (by omega) v.hl v.hm, good p 1 (by omega) v.pl v.pm, good t 0 (by omega) v.tl v.tm] at hw
    cases hw
  have made : ∀ (h p t : Str) (rt' : D → Prop), vOk nm h p t → rt' (fil (mak z ks sp ss nm) h p t) → fs_madeF [mak z ks sp ss nm, vsT h p t] rt' (fun _ => False) := fun h p t rt' v hk => by
    unfold fs_madeF
    refine ⟨z, ks, sp, ss, nm, _, _, _, _, rfl, .inl rfl, gM, tx h v.hl, tx p v.pl, tx t v.tl, fun w hw => (none_bad h p t v w hw).elim, fun h' p' t' e1 e2 e3 _ => ?_⟩
    cases e1
    cases e2
    cases e3
    exact hk
  refine wss_cons (ws_set 6 hN rfl (we_tup (we_ix ?_)))
  repeat walk_at "v"
  refine ⟨_, _, rfl, item_tup (i := 2) rfl, ?_⟩
  refine we_ix ?_
  repeat walk_at "v"
  refine ⟨_, _, rfl, item_tup (i := 1) rfl, ?_⟩
  refine we_ix ?_
  repeat walk_at "v"
  refine ⟨_, _, rfl, item_tup (i := 0) rfl, ?_⟩
  refine was_nil ?_
  refine wss_cons (ws_set 7 hN rfl (we_callG hG L.made (hr.mono (by decide)) ?_))
  repeat walk_at "v"
  refine made h p t _ gv ?_
  refine wss_cons (ws_set 8 hN rfl (we_callG hG L.made (hr.mono (by decide)) ?_))
  repeat walk_at "v"
  refine made t p h _ gv' ?_
  refine wss_at (ρ := [none, some (.val (.own 1)), some (.val (rawD z ks sp ss)), some (.val (.str nm)), some (.val (mak z ks sp ss nm)), some (.val (vsT h p t)), some (.val (vsT t p h)), some (.val (fil (mak z ks sp ss nm) h p t)), some (.val (fil (mak z ks sp ss nm) t p h)), none, none]) rfl ?_
  refine wss_cons (ws_if (wt_wp (wp_or (wt_not (wt_val (we_isi nb ?_))))))
  repeat walk_at "v"
  refine we_gcl L.I.nm ?_
  refine ⟨_, _, true, rfl, rfl, fun k fs e => by cases e; exact L.I.ins, L.I.yes, _, rfl, fun e => Bool.noConfusion e, fun _ => ?_⟩
  refine wp_or1 (wt_not (wt_val (we_isi nb ?_)))
  repeat walk_at "v"
  refine we_gcl L.I.nm ?_
  refine ⟨_, _, true, rfl, rfl, fun k fs e => by cases e; exact L.I.ins, L.I.yes, _, rfl, fun e => Bool.noConfusion e, fun _ => wss_nil ?_⟩
  refine wss_cons (ws_set 9 hN rfl (we_fdiv (we_sub (we_sub ?_))))
  repeat walk_at "v"
  refine we_ix ?_
  repeat walk_at "v"
  refine ⟨_, _, rfl, item_tup (i := 0) rfl, h.length, len_str (by omega), _, _, rfl, rfl, ?_⟩
  repeat walk_at "v"
  refine we_ix ?_
  repeat walk_at "v"
  refine ⟨_, _, rfl, item_tup (i := 2) rfl, t.length, len_str (by omega), _, _, rfl, rfl, ?_⟩
  repeat walk_at "v"
  refine we_ix ?_
  repeat walk_at "v"
  refine ⟨_, _, rfl, item_tup (i := 1) rfl, p.length, len_str (by omega), ?_⟩
  obtain ⟨mo, emo, mo1⟩ : ∃ mo : Nat, ((60 - (h.length : Int) - (t.length : Int)).fdiv (p.length : Int)) = (mo : Int) ∧ 1 ≤ mo := by
    have e : (60 - (h.length : Int) - (t.length : Int)).fdiv (p.length : Int) = (60 - (h.length : Int) - (t.length : Int)) / (p.length : Int) := Int.fdiv_eq_ediv_of_nonneg _ (by omega)
    have ge : 1 ≤ (60 - (h.length : Int) - (t.length : Int)) / (p.length : Int) := by
      rw [Int.le_ediv_iff_mul_le (by omega)]
      omega
    refine ⟨((60 - (h.length : Int) - (t.length : Int)) / (p.length : Int)).toNat, by rw [e]; omega, by omega⟩
  refine ⟨_, _, rfl, rfl, ⟨by omega, by omega⟩, ?_⟩
  rw [emo]
  refine wss_cons (ws_set 10 hN rfl (we_lst ?_))
  repeat walk_at "v"
  refine we_add ?_
  repeat walk_at "v"
  refine we_call L.pick (hr.mono (by decide)) ?_
  repeat walk_at "v"
  refine ⟨60, rfl, by decide, fun u u0 u1 => ⟨_, _, rfl, rfl, ?_⟩⟩
  obtain ⟨un, rfl⟩ : ∃ n : Nat, u = (n : Int) := ⟨u.toNat, by omega⟩
  refine we_add ?_
  repeat walk_at "v"
  refine ⟨_, _, rfl, rfl, ?_⟩
  repeat walk_at "v"
  refine we_call L.great (hr.mono (by decide)) ?_
  repeat walk_at "v"
  refine ⟨rfl, fun n n1 n39 => ?_⟩
  refine was_nil ?_
  obtain ⟨ns, ens⟩ : ∃ ns : List Nat, ns = [1, mo, 2, 1 + un, mo + 1, 3, n] := ⟨_, rfl⟩
  have eD : (D.lst [.int 1, .int (mo : Nat), .int 2, .int (1 + (un : Int)), .int ((mo : Int) + 1), .int 3, .int (n : Nat)]) = .lst (ns.map fun n => D.int (n : Nat)) := by
    rw [ens]
    rfl
  have all1 : ∀ q ∈ ns, 1 ≤ q := fun q hq => by
    rw [ens] at hq
    simp only [List.mem_cons, List.not_mem_nil, or_false] at hq
    omega
  have l7 : ns.length = 7 := by rw [ens]; rfl
  refine wss_at (ρ := [none, some (.val (.own 1)), some (.val (rawD z ks sp ss)), some (.val (.str nm)), some (.val (mak z ks sp ss nm)), some (.val (vsT h p t)), some (.val (vsT t p h)), some (.val (fil (mak z ks sp ss nm) h p t)), some (.val (fil (mak z ks sp ss nm) t p h)), some (.val (.int (mo : Nat))), some (.val (.lst (ns.map fun n => D.int (n : Nat))))]) (by rw [← eD]; rfl) ?_
  have ntrue : ∀ (h p t : Str) (ms : List Nat) (rt' : D → Prop), vOk nm h p t → ms.length ≤ 100 → (∀ n ∈ ms, 1 ≤ n) → rt' (.bl true) → fs_ntrue [rawD z ks sp ss, mak z ks sp ss nm, fil (mak z ks sp ss nm) h p t, vsT h p t, .lst (ms.map fun n => D.int (n : Nat))] rt' (fun _ => False) := fun h p t ms rt' v l1 l2 hk => by
    unfold fs_ntrue
    exact ⟨z, ks, sp, ss, nm, h, p, t, ms, rfl, gM, v, l1, l2, hk⟩
  refine wss_cons (ws_if (wt_not (wt_val (we_callG hG L.ntrue hr ?_))))
  repeat walk_at "v"
  refine ntrue h p t ns _ gv (by omega) all1 ⟨_, rfl, fun e => Bool.noConfusion e, fun _ => wss_nil ?_⟩
  refine wss_cons (ws_if (wt_not (wt_val (we_callG hG L.ntrue hr ?_))))
  repeat walk_at "v"
  refine we_sliceL ?_
  repeat walk_at "v"
  refine ⟨_, rfl, ?_⟩
  show Vl.WE _ _ _ _ _
  repeat walk_at "v"
  refine ⟨3, rfl, ?_⟩
  have e3 : Vl.cutD (ns.map fun n => D.int (n : Nat)) (some (3 : Int)) none = (ns.drop 3).map fun n => D.int (n : Nat) := by
    rw [show (3 : Int) = ((3 : Nat) : Int) from rfl, cut_drop (by rw [List.length_map]; omega), List.map_drop]
  show fs_ntrue [rawD z ks sp ss, mak z ks sp ss nm, fil (mak z ks sp ss nm) t p h, vsT t p h, .lst (Vl.cutD (ns.map fun n => D.int (n : Nat)) (some (3 : Int)) none)] _ _
  rw [e3]
  refine ntrue t p h _ _ gv' (by rw [List.length_drop]; omega) (fun q hq => all1 q (List.mem_of_mem_drop hq)) ⟨_, rfl, fun e => Bool.noConfusion e, fun _ => wss_nil ?_⟩
  refine wss_cons (ws_if (wt_not (wt_val (we_call L.alike (hr.mono (by decide)) ?_))))
  repeat walk_at "v"
  unfold fs_alike
  refine ⟨z, ks, sp, ss, nm, h, p, t, rfl, g, an, gv, _, rfl, fun e => Bool.noConfusion e, fun _ => wss_nil ?_⟩
  refine wss_cons (ws_if (wt_wp (wp_or (wt_not (wt_val (we_callG hG L.badn hr ?_))))))
  repeat walk_at "v"
  unfold fs_badn
  refine ⟨z, ks, sp, ss, nm, t, p, h, rfl, gM, gv', _, rfl, fun e => Bool.noConfusion e, fun _ => ?_⟩
  refine wp_or1 (wt_not (wt_val (we_callG hG L.badws (hr.mono (by decide)) ?_)))
  repeat walk_at "v"
  unfold fs_badws
  refine ⟨z, ks, sp, ss, nm, h, p, t, rfl, gM, gv, _, rfl, fun e => Bool.noConfusion e, fun _ => wss_nil ?_⟩
  refine wss_one (ws_ret (we_callG hG L.ntrue hr ?_))
  repeat walk_at "v"
  refine we_sliceL ?_
  repeat walk_at "v"
  refine ⟨_, rfl, ?_⟩
  show Vl.WE _ _ _ _ _
  repeat walk_at "v"
  refine ⟨2, rfl, ?_⟩
  have e2 : Vl.cutD (ns.map fun n => D.int (n : Nat)) none (some (2 : Int)) = (ns.take 2).map fun n => D.int (n : Nat) := by
    rw [show (2 : Int) = ((2 : Nat) : Int) from rfl, cut_take (by rw [List.length_map]; omega), List.map_take]
  show fs_ntrue [rawD z ks sp ss, mak z ks sp ss nm, fil (mak z ks sp ss nm) h p t, vsT h p t, .lst (Vl.cutD (ns.map fun n => D.int (n : Nat)) none (some (2 : Int)))] _ _
  rw [e2]
  exact (ntrue h p t _ _ gv (by rw [List.length_take]; omega) (fun q hq => all1 q (List.mem_of_mem_take hq)) rfl)
end
theorem ok_law4 {f fD : Addr} {fd fdD : FuncData} (nb : NB mg) (L : LawDefs4 P w K mg base cls) (FD : Fun K "_law_draw" "_law_draw" s_draw fD fdD) (gD : mg "_law_draw" = some (.ref fD)) (bD : Binds K fdD ["_law_script"] []) (F : Fun K "law" "law" s_law4 f fd) :
    FnG P w K mg base (L2N.CX P w) 13 f fd ["_law_script"] (spLaw K) := by
  have GD : FnOk P w K mg base (L2N.CX P w) 1 fD fdD ["_law_script"] (spDraw K) := ok_draw nb FD
  have hV := nv_sc_law4
  refine okG F sc_law4 (fun vs H Q E h => by obtain ⟨a, ns, rfl, _⟩ := h; rfl) (fun cdv A outer s H vs Q E hr hG h => ?_)
  obtain ⟨a, ns, rfl, hs, hl, kQ⟩ := h
  have hN := sc_law4.nd
  refine ⟨_, pss_cons (ps_set (i := 1) hN rfl (.inl rfl) (pe_call (E := E0) GD (hr.mono (by decide)) rfl gD FD.kp bD .nil passN (pa_cons (pe_var (i := 0) rfl (.inl rfl)) pa_nil)) rfl) (pssLate cls _ _), ?_⟩
  refine ⟨.ref a, rfl, ⟨a, ns, rfl, hs, hl, fun dr cl H1 i5 hne hcl hdr => ?_⟩⟩
  have S : Sl (⟨cxOf (L2N.CX P w) P w K mg base N_law4 "law" (defScope s_law4) f cdv A outer s H E, wDraw cls dr cl ns hne hl, fun _ => False, H1⟩ : Cy cls) (fun _ => False) H1 ((L2.start N_law4 [.ref a]).set 1 (some (.ref dr))) [none, some (.val (.own 1)), none, none, none, none, none, none, none, none, none] := {
    ndr := fun _ _ z => z
    ok := ⟨0, 0, 0, 0, i5, by omega, hcl, hdr⟩
    ok0 := fun b z => by
      rcases z with z | z <;> subst z
      · show H1 _ ≠ none
        rw [hdr]; exact fun z => nomatch z
      · show H1 _ ≠ none
        rw [hcl]; exact fun z => nomatch z
    gr := fun _ _ _ e => e
    sub := fun _ z => z.elim
    len := rfl
    val := fun i d e => by
      match i, e with
      | 1, e => cases e; exact ⟨.ref dr, rfl, .own rfl⟩
      | 0, e => cases e
      | i + 2, e =>
        have : ([none, none, none, none, none, none, none, none, none] : Rho)[i]? = some (some (.val d)) := e
        have := List.mem_of_getElem? this
        simp at this
    lst := fun i ds e => by
      have := List.mem_of_getElem? e
      simp at this
    sep := fun i j ds es b _ e => by
      have := List.mem_of_getElem? e
      simp at this
    ob := fun i b kk fs e => by
      have := List.mem_of_getElem? e
      simp at this
    exc := fun i e' e => by
      have := List.mem_of_getElem? e
      simp at this
    dc := fun i b e => by
      have := List.mem_of_getElem? e
      simp at this
    sepd := fun i j d1 d2 b _ e => by
      have := List.mem_of_getElem? e
      simp at this }
  refine ⟨wDraw cls dr cl ns hne hl, fun _ => False, H1, _, _, fun _ => E, { nx := fun _ => False, rt := fun _ d => d = .bl true }, S, L2N.takes_of rfl rfl rfl rfl, ⟨fun _ _ _ _ _ _ z => z.elim, fun R2 H2 σ2 ρ2 v d S2 q2 h => ?_, fun _ _ _ _ _ _ z => z.elim, fun _ _ _ _ _ _ z => z.elim⟩, fun _ _ _ _ _ _ _ _ _ z => z.elim, ?_⟩
  · subst h
    cases q2
    exact kQ H2
  exact law4_a nb L hr hG
end
section
set_option maxHeartbeats 4000000
open PySem PySem.Spec PyProof.Rows L2 Vl
theorem FD.fn {K : Fg} {d : FD} (hd : d.dfl = false) (e : d.obs K = d.val) (c : d.ok K = true) : ∃ fd, Fun K d.x d.qual d.st (d.ad K) fd := by
  obtain ⟨kp, c2⟩ := He.ba c
  unfold FD.obs at e
  cases q : K.lookup (d.ad K) with
  | none =>
    rw [q] at c2
    cases c2
  | some o =>
    obtain ⟨oc, od, dt, osl⟩ := o
    rw [q] at c2 e
    cases dt with
    | func fd =>
      obtain ⟨n1, n2, n3, n4, n5, n6, n7, n8, n9, n10, n11, n12, n13, n14, n15⟩ := fd
      have e2 : (some (n1, n2, n3, n4, n5, n6, n7, (if d.dfl = true then Value.none else n8), n15) : He.FnV) = some (d.x, d.qual, defArgs d.st, .stmts (defBody d.st), defScope d.st, mainGlobals, [], .none, builtinsNs) := e
      rw [if_neg (by rw [hd]; exact Bool.false_ne_true)] at e2
      simp only [Option.some.injEq, Prod.mk.injEq] at e2
      obtain ⟨h1, h2, h3, h4, h5, h6, h7, h8, h9⟩ := e2
      subst h1 h2 h3 h4 h5 h6 h7 h8 h9
      exact ⟨_, ⟨oc, od, n9, n10, n11, n12, n13, n14, osl, rfl, q, c2⟩, kp⟩
    | _ => cases c2
theorem empB_ok {K : Fg} {a : Addr} (h : empB K a = true) : KEmp K a := by
  unfold empB at h
  split at h
  · rename_i n dd its m sl ho
    obtain ⟨h1, h2⟩ := He.ba h
    have h1 := of_decide_eq_true h1
    subst h1
    have e : its = #[] := by
      obtain ⟨l⟩ := its
      have : l = [] := List.isEmpty_iff.mp h2
      rw [this]
    subst e
    exact ⟨fun H => .inr ⟨_, _, _, ho, rfl, rfl, Nat.zero_le _, .nil⟩, fun H => .kTuple ho rfl⟩
  · cases h
theorem dfB_ok {K : Fg} {a : Addr} (h : dfB K a = true) : KEmp K (dT0 K a) ∧ ∃ dV, dflt K a = dV ∧ DflV K dV [.int 1, .ref (dT0 K a)] := by
  unfold dfB at h
  split at h
  · rename_i T e1
    split at h
    · rename_i oc od its m sl e2
      split at h
      · rename_i i t t0 e3
        obtain ⟨h1, h2⟩ := He.ba h
        have h1 := of_decide_eq_true h1
        subst h1
        have e4 : dT0 K a = t0 := by
          unfold dT0
          rw [e1]
          dsimp only
          rw [e2]
          dsimp only
          rw [e3]
        rw [e4]
        refine ⟨empB_ok h2, _, rfl, .inr ⟨(fun z => nomatch z), T, _, its.toList, m, e1, e2, by rw [Array.toArray_toList], ?_⟩⟩
        rw [e3]
        exact .cons ⟨t, rfl⟩ (.cons rfl .nil)
      · cases h
    · cases h
  · cases h
theorem FD.fnV {K : Fg} {d : FD} (hd : d.dfl = true) (e : d.obs K = d.val) (c : d.ok K = true) {vs : List V} (h : ∃ dV, dflt K (d.ad K) = dV ∧ DflV K dV vs) : ∃ fd, FunD K d.x d.qual (defArgs d.st) (defBody d.st) (defScope d.st) vs [] (d.ad K) fd := by
  obtain ⟨kp, c2⟩ := He.ba c
  obtain ⟨dV, edV, hdV⟩ := h
  unfold FD.obs at e
  unfold dflt at edV
  cases q : K.lookup (d.ad K) with
  | none =>
    rw [q] at c2
    cases c2
  | some o =>
    obtain ⟨oc, od, dt, osl⟩ := o
    rw [q] at c2 e edV
    cases dt with
    | func fd =>
      obtain ⟨n1, n2, n3, n4, n5, n6, n7, n8, n9, n10, n11, n12, n13, n14, n15⟩ := fd
      have e2 : (some (n1, n2, n3, n4, n5, n6, n7, (if d.dfl = true then Value.none else n8), n15) : He.FnV) = some (d.x, d.qual, defArgs d.st, .stmts (defBody d.st), defScope d.st, mainGlobals, [], .none, builtinsNs) := e
      have e3 : n8 = dV := edV
      simp only [Option.some.injEq, Prod.mk.injEq] at e2
      obtain ⟨h1, h2, h3, h4, h5, h6, h7, h8, h9⟩ := e2
      subst h1 h2 h3 h4 h5 h6 h7 h9 e3
      exact ⟨_, ⟨oc, od, n8, n9, n10, n11, n12, n13, n14, osl, rfl, q, c2, hdV, .inl rfl⟩, kp⟩
    | _ => cases c2
theorem FD.fnD {K : Fg} {d : FD} (hd : d.dfl = true) (e : d.obs K = d.val) (c : d.ok K = true) (h : dfB K (d.ad K) = true) : ∃ fd, FunD K d.x d.qual (defArgs d.st) (defBody d.st) (defScope d.st) [.int 1, .ref (dT0 K (d.ad K))] [] (d.ad K) fd := FD.fnV hd e c (dfB_ok h).2
theorem SaysK.fn {ex : Fg → Bool} {fn : List FD} {K : Fg} (c : SaysK ex fn K) (i : Nat) {d : FD} (h : fn[i]? = some d) (hd : d.dfl = false) : ∃ fd, Fun K d.x d.qual d.st (d.ad K) fd := FD.fn hd (c.at_ i h).1 (c.at_ i h).2
theorem SaysK.fnD {ex : Fg → Bool} {fn : List FD} {K : Fg} (c : SaysK ex fn K) (i : Nat) {d : FD} (h : fn[i]? = some d) (hd : d.dfl = true) (hb : dfB K (d.ad K) = true) : ∃ fd, FunD K d.x d.qual (defArgs d.st) (defBody d.st) (defScope d.st) [.int 1, .ref (dT0 K (d.ad K))] [] (d.ad K) fd := FD.fnD hd (c.at_ i h).1 (c.at_ i h).2 hb
theorem oexB_ok {K : Fg} {C : Addr} (q : oexB K C = true) : ∃ nm q N bs bm sn sub ab col dd k0 k1 k2 k3 k5, K.lookup C = some (excClassObj nm q C N bs bm true sn sub ab col dd k0 k1 k2 k3 k5 "ValueError.__new__") ∧ PySem.HandSPX.refsVE bm = true := by
  unfold oexB at q
  split at q
  · rename_i n dd cd sl ho
    split at q
    · rename_i C' bm k0 k1 k2 k3 z k5 hm hs
      simp only [Bool.and_eq_true, decide_eq_true_eq, Bool.not_eq_true'] at q
      obtain ⟨rfl, rfl, rfl, hdel, hd, hb⟩ := q
      obtain ⟨nm, bs, mro, ns, qn, hdc, sn, sub, ab, col, del⟩ := cd
      dsimp only at hm hdel hd
      subst hm hdel hd
      have hsl : sl = #[k0, k1, k2, k3, some (.builtin "ValueError.__new__"), k5] := by
        obtain ⟨l⟩ := sl
        simp only at hs
        rw [hs]
      subst hsl
      exact ⟨nm, qn, ns, bs, bm, sn, sub, ab, col, dd, k0, k1, k2, k3, k5, ho, hb⟩
    · cases q
  · cases q
structure ErV (K : Fg) (k : Nat) (f : Str) : Prop where
  o : OexC K (clsK K k)
  ini : PySem.W.findIn K (.ref (clsK K k)) "__init__" = some (some (.ref (mAd K k "__init__")))
  ty : PySem.W.typeIn K (.ref (mAd K k "__init__")) = some (.type "function")
  fl : PySem.W.findIn K (.ref (clsK K k)) f = some none
  cl : PySem.W.findIn K (.ref (clsK K k)) "__class__" = some (some (.builtin "object.__class__"))
  xf : XfC K (clsK K k)
  mro : PySem.W.mroIn K (clsK K k) (.type "object") = some true
  kv : PySem.W.kitOne K (.ref (clsK K k)) (.type "ValueError") = some true
  em : PySem.W.exmOne K (.ref (clsK K k)) (.ref (clsK K 1)) = some true
  gt : PySem.W.specialIn K (.builtin "object.__class__") "__get__" = some (some (.builtin "getset_descriptor.__get__"))
  tk : PySem.W.takesIn K (.builtin "object.__class__") = some true
theorem erB_ok {K : Fg} {k : Nat} {f : Str} (h : erB K k f = true) : ErV K k f := by
  obtain ⟨h1, h⟩ := He.ba h
  obtain ⟨h2, h⟩ := He.ba h
  obtain ⟨h3, h⟩ := He.ba h
  obtain ⟨h4, h⟩ := He.ba h
  obtain ⟨h5, h⟩ := He.ba h
  obtain ⟨h6, h⟩ := He.ba h
  obtain ⟨h7, h⟩ := He.ba h
  obtain ⟨h8, h⟩ := He.ba h
  obtain ⟨h9, h⟩ := He.ba h
  obtain ⟨h10, h⟩ := He.ba h
  obtain ⟨h11, h⟩ := He.ba h
  obtain ⟨h12, h⟩ := He.ba h
  obtain ⟨h13, h⟩ := He.ba h
  obtain ⟨h14, h15⟩ := He.ba h
  exact ⟨⟨oexB_ok h1, He.eqO_ok h2, of_decide_eq_true h3, of_decide_eq_true h4, h5⟩, He.eqO_ok h6, of_decide_eq_true h7, He.eqO_ok h8, He.eqO_ok h9, L2.xfB_ok h10, of_decide_eq_true h11, of_decide_eq_true h12, of_decide_eq_true h13, He.eqO_ok h14, of_decide_eq_true h15⟩
theorem ErV.exc {K : Fg} {k : Nat} {f : Str} (E : ErV K k f) : ExcC K (clsK K k) := ⟨E.xf.ga, E.xf.gg, E.xf.exC, E.xf.hdC, E.cl, E.gt, E.tk, E.mro⟩
theorem er_mk {P : Program} {w : World} {K : Fg} {mg : Str → Option Value} {base : Heap} {k : Nat} {f x : Str} {fd : FuncData} {ps : List Str} (V : ErV K k f) (nm : mg x = some (.ref (clsK K k))) (F : FnOk P w K mg base (L2N.CX P w) 1 (mAd K k "__init__") fd ps (spX (clsK K k) [f])) (b : Binds K fd ps []) : Er P w K mg base (clsK K) x k [f] :=
  ⟨V.o, nm, _, _, _, V.ini, V.ty, F, b⟩
theorem meB_ok {K : Fg} {k : Nat} {m : Str} (h : meB K k m = true) : Meth K (clsK K k) m (mAd K k m) ∧ PySem.W.fnIn K (mAd K k m) = true := by
  obtain ⟨h1, h⟩ := He.ba h
  obtain ⟨h2, h⟩ := He.ba h
  obtain ⟨h3, h4⟩ := He.ba h
  exact ⟨⟨He.eqO_ok h1, h2, h3⟩, h4⟩
theorem clB_ok {K : Fg} {k : Nat} {fl : List Str} (h : clB K k fl = true) : Cls K (clsK K k) ∧ ∀ f ∈ fl, NoAttr K (clsK K k) f := by
  obtain ⟨h1, h⟩ := He.ba h
  obtain ⟨h2, h⟩ := He.ba h
  obtain ⟨h3, h⟩ := He.ba h
  obtain ⟨h4, h5⟩ := He.ba h
  exact ⟨⟨h1, h2, h3, He.eqO_ok h4⟩, fun f hf => He.eqO_ok (List.all_eq_true.mp h5 f hf)⟩
theorem inB_ok {K : Fg} {k : Nat} (C : Cls K (clsK K k)) (h : inB_ K k = true) : InsF K (clsK K k) ∧ PySem.W.kitOne K (.ref (clsK K k)) (.ref (clsK K k)) = some true ∧ ∀ n ∈ ["NoneType", "bool", "int", "str", "list", "tuple"], PySem.W.kitOne K (.type n) (.ref (clsK K k)) = some false := by
  obtain ⟨h1, h⟩ := He.ba h
  obtain ⟨h2, h⟩ := He.ba h
  obtain ⟨h3, h⟩ := He.ba h
  obtain ⟨h4, h⟩ := He.ba h
  obtain ⟨h5, h6⟩ := He.ba h
  exact ⟨⟨C, He.eqO_ok h1, He.eqO_ok h2, of_decide_eq_true h3, of_decide_eq_true h4⟩, of_decide_eq_true h5, fun n hn => of_decide_eq_true (List.all_eq_true.mp h6 n hn)⟩
theorem rdB_ok {K : Fg} {k : Nat} {m : Str} (h : rdB K k m = true) (hm : m ≠ "__class__" := by decide) : ClX.CRead K (clsK K k) (.type "type") ∧ ∃ u, PySem.W.findCls K (rC K k) (.type "type") m = some (.val u) ∧ RelV (.int 0) u ∧ PySem.W.findIn K (rC K k) m = some (some u) ∧ PySem.W.specialIn K u "__get__" = some none := by
  obtain ⟨h1, h⟩ := He.ba h
  obtain ⟨h2, h⟩ := He.ba h
  obtain ⟨h3, h⟩ := He.ba h
  obtain ⟨h4, h⟩ := He.ba h
  obtain ⟨h5, h⟩ := He.ba h
  obtain ⟨h6, h7⟩ := He.ba h
  have e : ∃ t, conV K k m = .int 0 t := by
    cases q : conV K k m with
    | int j t =>
      rw [q] at h5
      by_cases z : j = 0
      · subst z
        exact ⟨t, rfl⟩
      · exfalso
        revert h5
        cases j with
        | ofNat n =>
          cases n with
          | zero => exact absurd rfl z
          | succ n => exact fun h => Bool.noConfusion h
        | negSucc n => exact fun h => Bool.noConfusion h
    | _ => rw [q] at h5; cases h5
  have at_ : PySem.W.findCls K (rC K k) (.type "type") m = some (.val (conV K k m)) := by
    cases q : PySem.W.findCls K (rC K k) (.type "type") m with
    | none => rw [q] at h3; cases h3
    | some z =>
      rw [q] at h3
      cases z with
      | val u => rw [of_decide_eq_true (show decide (u = conV K k m) = true from h3)]
      | _ => cases h3
  exact ⟨⟨h1, He.eqO_ok h2⟩, _, at_, e, He.eqO_ok h4, He.eqO_ok h6⟩
theorem prB_ok {K : Fg} {k : Nat} {m : Str} (h : prB K k m = true) : PropOf K (clsK K k) m (prP K k m) (prG K k m) := by
  obtain ⟨h1, h⟩ := He.ba h
  obtain ⟨h2, h⟩ := He.ba h
  obtain ⟨h3, h4⟩ := He.ba h
  refine ⟨He.eqO_ok h1, He.eqO_ok h2, of_decide_eq_true h3, ?_⟩
  unfold prG
  cases q : PySem.W.recIn K (prP K k m) "property" with
  | none => rw [q] at h4; cases h4
  | some l =>
    rw [q] at h4
    cases l with
    | nil => cases h4
    | cons v r => cases v <;> first | exact ⟨_, rfl⟩ | cases h4
theorem mkB_ok {K : Fg} {k : Nat} (h : mkB K k = true) : Mk K (clsK K k) (mAd K k "__init__") := by
  obtain ⟨h1, h⟩ := He.ba h
  obtain ⟨h2, h⟩ := He.ba h
  obtain ⟨h3, h4⟩ := He.ba h
  exact ⟨h1, He.eqO_ok h2, h3, h4⟩
theorem exAt0 {K : Fg} (e : exK0 K = true) (i : Nat) {t : Fg → Bool} (h : exF0[i]? = some t) : t K = true := List.all_eq_true.mp e t (List.mem_of_getElem? h)
theorem b_is_integer {K : Fg} {f : Addr} {fd : FuncData} (F : Fun K "is_integer" "is_integer" (top 20) f fd) : Binds K fd ["thing"] [] := F.binds fun _ _ _ _ _ _ us hl => match us, hl with | [_], _ => by kernel_rfl
theorem b_in_bounds {K : Fg} {f : Addr} {fd : FuncData} (F : Fun K "in_bounds" "in_bounds" (top 21) f fd) : Binds K fd ["thing", "least", "most"] [] := F.binds fun _ _ _ _ _ _ us hl => match us, hl with | [_, _, _], _ => by kernel_rfl
theorem b_is_tuple {K : Fg} {f : Addr} {fd : FuncData} (F : Fun K "is_tuple" "is_tuple" (top 22) f fd) : Binds K fd ["thing", "least", "most"] [] := F.binds fun _ _ _ _ _ _ us hl => match us, hl with | [_, _, _], _ => by kernel_rfl
theorem b_is_letter {K : Fg} {f : Addr} {fd : FuncData} (F : Fun K "is_letter" "is_letter" (top 23) f fd) : Binds K fd ["thing", "letters"] [] := F.binds fun _ _ _ _ _ _ us hl => match us, hl with | [_, _], _ => by kernel_rfl
theorem b_is_rising {K : Fg} {f : Addr} {fd : FuncData} (F : Fun K "is_rising" "is_rising" (top 24) f fd) : Binds K fd ["row"] [] := F.binds fun _ _ _ _ _ _ us hl => match us, hl with | [_], _ => by kernel_rfl
theorem b_frozen {K : Fg} {f : Addr} {fd : FuncData} (F : Fun K "frozen" "frozen" (top 25) f fd) : Binds K fd ["thing"] [] := F.binds fun _ _ _ _ _ _ us hl => match us, hl with | [_], _ => by kernel_rfl
theorem b_misplaced {K : Fg} {f : Addr} {fd : FuncData} (F : Fun K "misplaced" "misplaced" (top 26) f fd) : Binds K fd ["text", "letters", "least", "most"] [] := F.binds fun _ _ _ _ _ _ us hl => match us, hl with | [_, _, _, _], _ => by kernel_rfl
theorem b_is_text {K : Fg} {f : Addr} {fd : FuncData} (F : Fun K "is_text" "is_text" (top 27) f fd) : Binds K fd ["thing", "letters", "least", "most"] [] := F.binds fun _ _ _ _ _ _ us hl => match us, hl with | [_, _, _, _], _ => by kernel_rfl
theorem b_are_words {K : Fg} {f : Addr} {fd : FuncData} (F : Fun K "are_words" "are_words" (top 28) f fd) : Binds K fd ["thing"] [] := F.binds fun _ _ _ _ _ _ us hl => match us, hl with | [_], _ => by kernel_rfl
theorem b_check_words {K : Fg} {f : Addr} {fd : FuncData} (F : Fun K "check_words" "check_words" (top 29) f fd) : Binds K fd ["words"] [] := F.binds fun _ _ _ _ _ _ us hl => match us, hl with | [_], _ => by kernel_rfl
theorem b_check_number {K : Fg} {f : Addr} {fd : FuncData} (F : Fun K "check_number" "check_number" (top 36) f fd) : Binds K fd ["n"] [] := F.binds fun _ _ _ _ _ _ us hl => match us, hl with | [_], _ => by kernel_rfl
theorem b_is_standing {K : Fg} {f : Addr} {fd : FuncData} (F : Fun K "is_standing" "is_standing" (top 40) f fd) : Binds K fd ["row", "signs", "many"] [] := F.binds fun _ _ _ _ _ _ us hl => match us, hl with | [_, _, _], _ => by kernel_rfl
theorem b_is_rest {K : Fg} {f : Addr} {fd : FuncData} (F : Fun K "is_rest" "is_rest" (top 41) f fd) : Binds K fd ["row"] [] := F.binds fun _ _ _ _ _ _ us hl => match us, hl with | [_], _ => by kernel_rfl
theorem b_wrong_standing {K : Fg} {f : Addr} {fd : FuncData} (F : Fun K "wrong_standing" "wrong_standing" (top 42) f fd) : Binds K fd ["words", "rows"] [] := F.binds fun _ _ _ _ _ _ us hl => match us, hl with | [_, _], _ => by kernel_rfl
theorem b_is_kind {K : Fg} {f : Addr} {fd : FuncData} (F : Fun K "is_kind" "is_kind" (top 50) f fd) : Binds K fd ["words", "row"] [] := F.binds fun _ _ _ _ _ _ us hl => match us, hl with | [_, _], _ => by kernel_rfl
theorem b_check_kinds {K : Fg} {f : Addr} {fd : FuncData} (F : Fun K "check_kinds" "check_kinds" (top 51) f fd) : Binds K fd ["words", "rows"] [] := F.binds fun _ _ _ _ _ _ us hl => match us, hl with | [_, _], _ => by kernel_rfl
theorem b_is_seat {K : Fg} {f : Addr} {fd : FuncData} (F : Fun K "is_seat" "is_seat" (top 52) f fd) : Binds K fd ["names", "row"] [] := F.binds fun _ _ _ _ _ _ us hl => match us, hl with | [_, _], _ => by kernel_rfl
theorem b_check_seats {K : Fg} {f : Addr} {fd : FuncData} (F : Fun K "check_seats" "check_seats" (top 53) f fd) : Binds K fd ["names", "rows"] [] := F.binds fun _ _ _ _ _ _ us hl => match us, hl with | [_, _], _ => by kernel_rfl
theorem b__law_draw {K : Fg} {f : Addr} {fd : FuncData} (F : Fun K "_law_draw" "_law_draw" (top 56) f fd) : Binds K fd ["_law_script"] [] := F.binds fun _ _ _ _ _ _ us hl => match us, hl with | [_], _ => by kernel_rfl
theorem b__law_mix {K : Fg} {f : Addr} {fd : FuncData} (F : Fun K "_law_mix" "_law_mix" (top 57) f fd) : Binds K fd ["_law_cell", "_law_turn"] [] := F.binds fun _ _ _ _ _ _ us hl => match us, hl with | [_, _], _ => by kernel_rfl
theorem b__law_pick {K : Fg} {f : Addr} {fd : FuncData} (F : Fun K "_law_pick" "_law_pick" (top 58) f fd) : Binds K fd ["_law_draw_here", "_law_many"] [] := F.binds fun _ _ _ _ _ _ us hl => match us, hl with | [_, _], _ => by kernel_rfl
theorem b__law_is_int {K : Fg} {f : Addr} {fd : FuncData} (F : Fun K "_law_is_int" "_law_is_int" (top 59) f fd) : Binds K fd ["_law_thing"] [] := F.binds fun _ _ _ _ _ _ us hl => match us, hl with | [_], _ => by kernel_rfl
theorem b__law_words {K : Fg} {f : Addr} {fd : FuncData} (F : Fun K "_law_words" "_law_words" (top 60) f fd) : Binds K fd ["_law_draw_here", "_law_many"] [] := F.binds fun _ _ _ _ _ _ us hl => match us, hl with | [_, _], _ => by kernel_rfl
theorem b__law_names {K : Fg} {f : Addr} {fd : FuncData} (F : Fun K "_law_names" "_law_names" (top 61) f fd) : Binds K fd ["_law_draw_here", "_law_many"] [] := F.binds fun _ _ _ _ _ _ us hl => match us, hl with | [_, _], _ => by kernel_rfl
theorem b__law_drill {K : Fg} {f : Addr} {fd : FuncData} (F : Fun K "_law_drill" "_law_drill" (top 62) f fd) : Binds K fd ["_law_draw_here", "_law_words_here", "_law_many", "_law_steady"] [] := F.binds fun _ _ _ _ _ _ us hl => match us, hl with | [_, _, _, _], _ => by kernel_rfl
theorem b__law_even_drill {K : Fg} {f : Addr} {fd : FuncData} (F : Fun K "_law_even_drill" "_law_even_drill" (top 63) f fd) : Binds K fd ["_law_draw_here", "_law_words_here", "_law_many", "_law_steady"] [] := F.binds fun _ _ _ _ _ _ us hl => match us, hl with | [_, _, _, _], _ => by kernel_rfl
theorem b__law_make {K : Fg} {f : Addr} {fd : FuncData} (F : Fun K "_law_make" "_law_make" (top 64) f fd) : Binds K fd ["_law_draw_here", "_law_many_words", "_law_many_kinds", "_law_steady"] [] := F.binds fun _ _ _ _ _ _ us hl => match us, hl with | [_, _, _, _], _ => by kernel_rfl
theorem b__law_kind {K : Fg} {f : Addr} {fd : FuncData} (F : Fun K "_law_kind" "_law_kind" (top 65) f fd) : Binds K fd ["_law_make_here", "_law_name"] [] := F.binds fun _ _ _ _ _ _ us hl => match us, hl with | [_, _], _ => by kernel_rfl
theorem b__law_seat {K : Fg} {f : Addr} {fd : FuncData} (F : Fun K "_law_seat" "_law_seat" (top 66) f fd) : Binds K fd ["_law_make_here", "_law_ahead", "_law_behind"] [] := F.binds fun _ _ _ _ _ _ us hl => match us, hl with | [_, _, _], _ => by kernel_rfl
theorem b__law_all_names {K : Fg} {f : Addr} {fd : FuncData} (F : Fun K "_law_all_names" "_law_all_names" (top 67) f fd) : Binds K fd ["_law_make_here"] [] := F.binds fun _ _ _ _ _ _ us hl => match us, hl with | [_], _ => by kernel_rfl
theorem b__law_text {K : Fg} {f : Addr} {fd : FuncData} (F : Fun K "_law_text" "_law_text" (top 68) f fd) : Binds K fd ["_law_draw_here", "_law_signs", "_law_most"] [] := F.binds fun _ _ _ _ _ _ us hl => match us, hl with | [_, _, _], _ => by kernel_rfl
theorem b__law_column {K : Fg} {f : Addr} {fd : FuncData} (F : Fun K "_law_column" "_law_column" (top 69) f fd) : Binds K fd ["_law_make_here", "_law_groups"] [] := F.binds fun _ _ _ _ _ _ us hl => match us, hl with | [_, _], _ => by kernel_rfl
theorem b__law_refusal {K : Fg} {f : Addr} {fd : FuncData} (F : Fun K "_law_refusal" "_law_refusal" (top 70) f fd) : Binds K fd ["_law_error"] [] := F.binds fun _ _ _ _ _ _ us hl => match us, hl with | [_], _ => by kernel_rfl
theorem b__law_made {K : Fg} {f : Addr} {fd : FuncData} (F : Fun K "_law_made" "_law_made" (top 71) f fd) : Binds K fd ["_law_told", "_law_values"] [] := F.binds fun _ _ _ _ _ _ us hl => match us, hl with | [_, _], _ => by kernel_rfl
theorem b__law_asked {K : Fg} {f : Addr} {fd : FuncData} (F : Fun K "_law_asked" "_law_asked" (top 72) f fd) : Binds K fd ["_law_thing", "_law_which", "_law_n"] [] := F.binds fun _ _ _ _ _ _ us hl => match us, hl with | [_, _, _], _ => by kernel_rfl
theorem b__law_strings {K : Fg} {f : Addr} {fd : FuncData} (F : Fun K "_law_strings" "_law_strings" (top 73) f fd) : Binds K fd ["_law_draw_here", "_law_names_here"] [] := F.binds fun _ _ _ _ _ _ us hl => match us, hl with | [_, _], _ => by kernel_rfl
theorem b__law_great {K : Fg} {f : Addr} {fd : FuncData} (F : Fun K "_law_great" "_law_great" (top 74) f fd) : Binds K fd ["_law_draw_here"] [] := F.binds fun _ _ _ _ _ _ us hl => match us, hl with | [_], _ => by kernel_rfl
theorem b__law_measures {K : Fg} {f : Addr} {fd : FuncData} (F : Fun K "_law_measures" "_law_measures" (top 75) f fd) : Binds K fd ["_law_make_here", "_law_groups"] [] := F.binds fun _ _ _ _ _ _ us hl => match us, hl with | [_, _], _ => by kernel_rfl
theorem b__law_column_true {K : Fg} {f : Addr} {fd : FuncData} (F : Fun K "_law_column_true" "_law_column_true" (top 76) f fd) : Binds K fd ["_law_make_here", "_law_told", "_law_column_here", "_law_values", "_law_n"] [] := F.binds fun _ _ _ _ _ _ us hl => match us, hl with | [_, _, _, _, _], _ => by kernel_rfl
theorem b__law_numbers_true {K : Fg} {f : Addr} {fd : FuncData} (F : Fun K "_law_numbers_true" "_law_numbers_true" (top 77) f fd) : Binds K fd ["_law_make_here", "_law_told", "_law_thing", "_law_values", "_law_numbers"] [] := F.binds fun _ _ _ _ _ _ us hl => match us, hl with | [_, _, _, _, _], _ => by kernel_rfl
theorem b__law_longer {K : Fg} {f : Addr} {fd : FuncData} (F : Fun K "_law_longer" "_law_longer" (top 78) f fd) : Binds K fd ["_law_word", "_law_name"] [] := F.binds fun _ _ _ _ _ _ us hl => match us, hl with | [_, _], _ => by kernel_rfl
theorem b__law_alike_true {K : Fg} {f : Addr} {fd : FuncData} (F : Fun K "_law_alike_true" "_law_alike_true" (top 79) f fd) : Binds K fd ["_law_draw_here", "_law_make_here", "_law_told", "_law_thing", "_law_values", "_law_names_here"] [] := F.binds fun _ _ _ _ _ _ us hl => match us, hl with | [_, _, _, _, _, _], _ => by kernel_rfl
theorem b__law_bad_numbers {K : Fg} {f : Addr} {fd : FuncData} (F : Fun K "_law_bad_numbers" "_law_bad_numbers" (top 80) f fd) : Binds K fd ["_law_draw_here", "_law_thing"] [] := F.binds fun _ _ _ _ _ _ us hl => match us, hl with | [_, _], _ => by kernel_rfl
theorem b__law_bad_word {K : Fg} {f : Addr} {fd : FuncData} (F : Fun K "_law_bad_word" "_law_bad_word" (top 81) f fd) : Binds K fd ["_law_draw_here", "_law_names_here", "_law_word", "_law_is_part"] [] := F.binds fun _ _ _ _ _ _ us hl => match us, hl with | [_, _, _, _], _ => by kernel_rfl
theorem b__law_bad_words {K : Fg} {f : Addr} {fd : FuncData} (F : Fun K "_law_bad_words" "_law_bad_words" (top 82) f fd) : Binds K fd ["_law_draw_here", "_law_told", "_law_values", "_law_names_here"] [] := F.binds fun _ _ _ _ _ _ us hl => match us, hl with | [_, _, _, _], _ => by kernel_rfl
theorem b_Make___eq__ {K : Fg} {f : Addr} {fd : FuncData} (F : Fun K "__eq__" "Make.__eq__" (inClass (top 54) 5) f fd) : Binds K fd ["self", "other"] [] := F.binds fun _ _ _ _ _ _ us hl => match us, hl with | [_, _], _ => by kernel_rfl
theorem b_Make_all_names {K : Fg} {f : Addr} {fd : FuncData} (F : Fun K "all_names" "Make.all_names" (inClass (top 54) 6) f fd) : Binds K fd ["self"] [] := F.binds fun _ _ _ _ _ _ us hl => match us, hl with | [_], _ => by kernel_rfl
theorem b_Make_lag_of {K : Fg} {f : Addr} {fd : FuncData} (F : Fun K "lag_of" "Make.lag_of" (inClass (top 54) 7) f fd) : Binds K fd ["self", "name"] [] := F.binds fun _ _ _ _ _ _ us hl => match us, hl with | [_, _], _ => by kernel_rfl
theorem b_Make_seat_of {K : Fg} {f : Addr} {fd : FuncData} (F : Fun K "seat_of" "Make.seat_of" (inClass (top 54) 8) f fd) : Binds K fd ["self", "ahead", "behind"] [] := F.binds fun _ _ _ _ _ _ us hl => match us, hl with | [_, _, _], _ => by kernel_rfl
theorem b_Make_body_of {K : Fg} {f : Addr} {fd : FuncData} (F : Fun K "body_of" "Make.body_of" (inClass (top 54) 9) f fd) : Binds K fd ["self", "name"] [] := F.binds fun _ _ _ _ _ _ us hl => match us, hl with | [_, _], _ => by kernel_rfl
theorem b_Make_check_name {K : Fg} {f : Addr} {fd : FuncData} (F : Fun K "check_name" "Make.check_name" (inClass (top 54) 11) f fd) : Binds K fd ["self", "name"] [] := F.binds fun _ _ _ _ _ _ us hl => match us, hl with | [_, _], _ => by kernel_rfl
theorem b_Column___init__ {K : Fg} {f : Addr} {fd : FuncData} (F : Fun K "__init__" "Column.__init__" (inClass (top 33) 0) f fd) : Binds K fd ["self", "make", "groups"] [] := F.binds fun _ _ _ _ _ _ us hl => match us, hl with | [_, _, _], _ => by kernel_rfl
theorem b_Column___eq__ {K : Fg} {f : Addr} {fd : FuncData} (F : Fun K "__eq__" "Column.__eq__" (inClass (top 33) 4) f fd) : Binds K fd ["self", "other"] [] := F.binds fun _ _ _ _ _ _ us hl => match us, hl with | [_, _], _ => by kernel_rfl
theorem b_Column_delay_row {K : Fg} {f : Addr} {fd : FuncData} (F : Fun K "delay_row" "Column.delay_row" (inClass (top 33) 6) f fd) : Binds K fd ["self"] [] := F.binds fun _ _ _ _ _ _ us hl => match us, hl with | [_], _ => by kernel_rfl
theorem b_Column_front_row {K : Fg} {f : Addr} {fd : FuncData} (F : Fun K "front_row" "Column.front_row" (inClass (top 33) 7) f fd) : Binds K fd ["self"] [] := F.binds fun _ _ _ _ _ _ us hl => match us, hl with | [_], _ => by kernel_rfl
theorem b_Column_rest_length {K : Fg} {f : Addr} {fd : FuncData} (F : Fun K "rest_length" "Column.rest_length" (inClass (top 33) 8) f fd) : Binds K fd ["self"] [] := F.binds fun _ _ _ _ _ _ us hl => match us, hl with | [_], _ => by kernel_rfl
theorem b_Column_pairs {K : Fg} {f : Addr} {fd : FuncData} (F : Fun K "pairs" "Column.pairs" (inClass (top 33) 9) f fd) : Binds K fd ["self"] [] := F.binds fun _ _ _ _ _ _ us hl => match us, hl with | [_], _ => by kernel_rfl
theorem b_File___init__ {K : Fg} {f : Addr} {fd : FuncData} (F : Fun K "__init__" "File.__init__" (inClass (top 37) 0) f fd) : Binds K fd ["self", "make", "head", "part", "tail"] [] := F.binds fun _ _ _ _ _ _ us hl => match us, hl with | [_, _, _, _, _], _ => by kernel_rfl
theorem b_File___eq__ {K : Fg} {f : Addr} {fd : FuncData} (F : Fun K "__eq__" "File.__eq__" (inClass (top 37) 1) f fd) : Binds K fd ["self", "other"] [] := F.binds fun _ _ _ _ _ _ us hl => match us, hl with | [_, _], _ => by kernel_rfl
theorem b_File_column_of {K : Fg} {f : Addr} {fd : FuncData} (F : Fun K "column_of" "File.column_of" (inClass (top 37) 2) f fd) : Binds K fd ["self", "n"] [] := F.binds fun _ _ _ _ _ _ us hl => match us, hl with | [_, _], _ => by kernel_rfl
theorem b_File_delay_of {K : Fg} {f : Addr} {fd : FuncData} (F : Fun K "delay_of" "File.delay_of" (inClass (top 37) 3) f fd) : Binds K fd ["self", "n"] [] := F.binds fun _ _ _ _ _ _ us hl => match us, hl with | [_, _], _ => by kernel_rfl
theorem b_File_length_of {K : Fg} {f : Addr} {fd : FuncData} (F : Fun K "length_of" "File.length_of" (inClass (top 37) 4) f fd) : Binds K fd ["self", "n"] [] := F.binds fun _ _ _ _ _ _ us hl => match us, hl with | [_, _], _ => by kernel_rfl
theorem b_File_delay_of_part {K : Fg} {f : Addr} {fd : FuncData} (F : Fun K "delay_of_part" "File.delay_of_part" (inClass (top 37) 5) f fd) : Binds K fd ["self"] [] := F.binds fun _ _ _ _ _ _ us hl => match us, hl with | [_], _ => by kernel_rfl
theorem b_File_length_of_part {K : Fg} {f : Addr} {fd : FuncData} (F : Fun K "length_of_part" "File.length_of_part" (inClass (top 37) 6) f fd) : Binds K fd ["self"] [] := F.binds fun _ _ _ _ _ _ us hl => match us, hl with | [_], _ => by kernel_rfl
theorem b_BadWords___init__ {K : Fg} {f : Addr} {fd : FuncData} (F : Fun K "__init__" "BadWords.__init__" (inClass (top 3) 0) f fd) : Binds K fd ["self", "words"] [] := F.binds fun _ _ _ _ _ _ us hl => match us, hl with | [_, _], _ => by kernel_rfl
theorem b_BadKind___init__ {K : Fg} {f : Addr} {fd : FuncData} (F : Fun K "__init__" "BadKind.__init__" (inClass (top 5) 0) f fd) : Binds K fd ["self", "number"] [] := F.binds fun _ _ _ _ _ _ us hl => match us, hl with | [_, _], _ => by kernel_rfl
theorem b_BadSpace___init__ {K : Fg} {f : Addr} {fd : FuncData} (F : Fun K "__init__" "BadSpace.__init__" (inClass (top 6) 0) f fd) : Binds K fd ["self", "space"] [] := F.binds fun _ _ _ _ _ _ us hl => match us, hl with | [_, _], _ => by kernel_rfl
theorem b_BadSeat___init__ {K : Fg} {f : Addr} {fd : FuncData} (F : Fun K "__init__" "BadSeat.__init__" (inClass (top 7) 0) f fd) : Binds K fd ["self", "number"] [] := F.binds fun _ _ _ _ _ _ us hl => match us, hl with | [_, _], _ => by kernel_rfl
theorem b_BadColumn___init__ {K : Fg} {f : Addr} {fd : FuncData} (F : Fun K "__init__" "BadColumn.__init__" (inClass (top 8) 0) f fd) : Binds K fd ["self", "number"] [] := F.binds fun _ _ _ _ _ _ us hl => match us, hl with | [_, _], _ => by kernel_rfl
theorem b_BadNumber___init__ {K : Fg} {f : Addr} {fd : FuncData} (F : Fun K "__init__" "BadNumber.__init__" (inClass (top 11) 0) f fd) : Binds K fd ["self", "number"] [] := F.binds fun _ _ _ _ _ _ us hl => match us, hl with | [_, _], _ => by kernel_rfl
theorem b_Twice___init__ {K : Fg} {f : Addr} {fd : FuncData} (F : Fun K "__init__" "Twice.__init__" (inClass (top 12) 0) f fd) : Binds K fd ["self", "name"] [] := F.binds fun _ _ _ _ _ _ us hl => match us, hl with | [_, _], _ => by kernel_rfl
theorem b_Unknown___init__ {K : Fg} {f : Addr} {fd : FuncData} (F : Fun K "__init__" "Unknown.__init__" (inClass (top 13) 0) f fd) : Binds K fd ["self", "name"] [] := F.binds fun _ _ _ _ _ _ us hl => match us, hl with | [_, _], _ => by kernel_rfl
theorem b_BadFile___init__ {K : Fg} {f : Addr} {fd : FuncData} (F : Fun K "__init__" "BadFile.__init__" (inClass (top 10) 0) f fd) : Binds K fd ["self", "word"] [] := F.binds fun _ _ _ _ _ _ us hl => match us, hl with | [_, _], _ => by kernel_rfl
theorem b_lawTo {K : PySem.W.Frag} {f : Addr} {fd : FuncData} {s : Shared} {v : Value} (F : Fun K "law" "law" (top 83) f fd) : BindsTo s fd ⟨[v], []⟩ [("_law_script", v)] := by
  obtain ⟨oc, od, kV, doc, pm, an, cdv, ct, osl, rfl, lk, hcd⟩ := F.ex
  exact BindsTo.of_eq (by kernel_rfl)
end
section
set_option maxHeartbeats 16000000
open PySem PySem.Spec PyProof.Rows L2 Vl
theorem b_make4 {K : PySem.W.Frag} {f T0 : Addr} {fd : FuncData} (F : FunD K "__init__" "Make.__init__" (defArgs k_init) (defBody k_init) (defScope k_init) [.int 1, .ref T0] [] f fd) : ∃ ds, Vals (([.int 1, .ref T0] : List V).drop 2) ds ∧ Binds K fd ["self", "words", "kinds", "space", "seats"] ds :=
  F.binds1 5 2 (fun z => nomatch z) rfl fun T kV doc pm an cdv ct us its h1 h2 => match us, its, h1, h2 with | [_, _, _, _, _], [_, _], _, _ => ⟨_, rfl, by kernel_rfl⟩
theorem sc_e2 : FnScope ["self", "words"] ["self", "words"] (defScope (inClass (top 3) 0)) := ⟨rfl, rfl, rfl, by decide +kernel, rfl, by decide +kernel, by decide +kernel⟩
theorem sc_e6 : FnScope ["self", "number"] ["self", "number"] (defScope (inClass (top 5) 0)) := ⟨rfl, rfl, rfl, by decide +kernel, rfl, by decide +kernel, by decide +kernel⟩
theorem sc_e7 : FnScope ["self", "space"] ["self", "space"] (defScope (inClass (top 6) 0)) := ⟨rfl, rfl, rfl, by decide +kernel, rfl, by decide +kernel, by decide +kernel⟩
theorem sc_e8 : FnScope ["self", "number"] ["self", "number"] (defScope (inClass (top 7) 0)) := ⟨rfl, rfl, rfl, by decide +kernel, rfl, by decide +kernel, by decide +kernel⟩
theorem sc_e9 : FnScope ["self", "number"] ["self", "number"] (defScope (inClass (top 8) 0)) := ⟨rfl, rfl, rfl, by decide +kernel, rfl, by decide +kernel, by decide +kernel⟩
theorem sc_e10 : FnScope ["self", "number"] ["self", "number"] (defScope (inClass (top 11) 0)) := ⟨rfl, rfl, rfl, by decide +kernel, rfl, by decide +kernel, by decide +kernel⟩
theorem sc_e11 : FnScope ["self", "name"] ["self", "name"] (defScope (inClass (top 12) 0)) := ⟨rfl, rfl, rfl, by decide +kernel, rfl, by decide +kernel, by decide +kernel⟩
theorem sc_e12 : FnScope ["self", "name"] ["self", "name"] (defScope (inClass (top 13) 0)) := ⟨rfl, rfl, rfl, by decide +kernel, rfl, by decide +kernel, by decide +kernel⟩
theorem sc_e17 : FnScope ["self", "word"] ["self", "word"] (defScope (inClass (top 10) 0)) := ⟨rfl, rfl, rfl, by decide +kernel, rfl, by decide +kernel, by decide +kernel⟩
theorem facts {P : Program} {w : World} {K : PySem.W.Frag} {h : Heap} {mg : Str → Option Value} {f : Addr} (X : K.In h) (G : h.Ns mainGlobals mg) (hfa : mg ("law" : Str) = some (.ref f)) (c : SaysK exK fnK K) :
    ∃ fd : FuncData, (∀ (s : Shared) (v : Value), BindsTo s fd ⟨[v], []⟩ [("_law_script", v)]) ∧ ∀ base : Heap, K.In base → base.Ns mainGlobals mg → FnG P w K mg base (L2N.CX P w) 13 f fd ["_law_script"] (spLaw K) := by
  have ex := c.exs
  skip
  have ex_0 := ex
  have xNB : (bltH.all fun x => He.eqO (PySem.W.nsIn K mainGlobals x) (some none)) = true := exAt0 ex_0 0 rfl
  have xIT : (He.eqO (PySem.W.nsIn K mainGlobals "iter") (some none)) = true := exAt0 ex_0 1 rfl
  have xGL0 : (gl0.all fun x => (He.Fa.glo x).ok K) = true := exAt0 ex_0 2 rfl
  have xGL1 : (gl1.all fun x => (He.Fa.glo x).ok K) = true := exAt0 ex_0 3 rfl
  have xI_MOST_NAMES : ((He.Fa.int "MOST_NAMES" 20).ok K) = true := exAt0 ex_0 4 rfl
  have xI_MOST_GROUPS : ((He.Fa.int "MOST_GROUPS" 60).ok K) = true := exAt0 ex_0 5 rfl
  have xI_MOST_STANDINGS : ((He.Fa.int "MOST_STANDINGS" 6).ok K) = true := exAt0 ex_0 6 rfl
  have xI_MOST_KINDS : ((He.Fa.int "MOST_KINDS" 4).ok K) = true := exAt0 ex_0 7 rfl
  have xI_MOST_LAG : ((He.Fa.int "MOST_LAG" 3).ok K) = true := exAt0 ex_0 8 rfl
  have xI_MOST_SPACE : ((He.Fa.int "MOST_SPACE" 20).ok K) = true := exAt0 ex_0 9 rfl
  have xI_MOST_SEAT : ((He.Fa.int "MOST_SEAT" 40).ok K) = true := exAt0 ex_0 10 rfl
  have xS_SMALL : ((He.Fa.str "SMALL" "abcdefghijklmnopqrstuvwxyz").ok K) = true := exAt0 ex_0 11 rfl
  have xS_CAPITALS : ((He.Fa.str "CAPITALS" "ABCDEFGHIJKLMNOPQRSTUVWXYZ").ok K) = true := exAt0 ex_0 12 rfl
  have xE2 : (erB K 2 "words") = true := exAt0 ex_0 13 rfl
  have xE6 : (erB K 6 "number") = true := exAt0 ex_0 14 rfl
  have xE7 : (erB K 7 "space") = true := exAt0 ex_0 15 rfl
  have xE8 : (erB K 8 "number") = true := exAt0 ex_0 16 rfl
  have xE9 : (erB K 9 "number") = true := exAt0 ex_0 17 rfl
  have xE10 : (erB K 10 "number") = true := exAt0 ex_0 18 rfl
  have xE11 : (erB K 11 "name") = true := exAt0 ex_0 19 rfl
  have xE12 : (erB K 12 "name") = true := exAt0 ex_0 20 rfl
  have xE17 : (erB K 17 "word") = true := exAt0 ex_0 21 rfl
  have xKK : (hErrs.all fun i => hErrs.all fun j => decide (PySem.W.kitOne K (.ref (clsK K i)) (.ref (clsK K j)) = some (i == j))) = true := exAt0 ex_0 22 rfl
  have xC25 : (clB K 25 ["words", "standings"]) = true := exAt0 ex_0 23 rfl
  have xMK25 : (mkB K 25) = true := exAt0 ex_0 24 rfl
  have xCO25_REST : (rdB K 25 "REST") = true := exAt0 ex_0 25 rfl
  have xC26 : (clB K 26 ["words", "kinds", "space", "seats", "_names", "_kind_of", "_paces"]) = true := exAt0 ex_0 26 rfl
  have xIN26 : (inB_ K 26) = true := exAt0 ex_0 27 rfl
  have xMK26 : (mkB K 26) = true := exAt0 ex_0 28 rfl
  have xNF26_0 : (PySem.W.notFirst K (clsK K 26) (.ref (clsK K 26))) = true := exAt0 ex_0 29 rfl
  have xPR26_all_names : (prB K 26 "all_names") = true := exAt0 ex_0 30 rfl
  have xME26___eq__ : (meB K 26 "__eq__") = true := exAt0 ex_0 31 rfl
  have xME26_lag_of : (meB K 26 "lag_of") = true := exAt0 ex_0 32 rfl
  have xME26_seat_of : (meB K 26 "seat_of") = true := exAt0 ex_0 33 rfl
  have xME26_body_of : (meB K 26 "body_of") = true := exAt0 ex_0 34 rfl
  have xME26_check_name : (meB K 26 "check_name") = true := exAt0 ex_0 35 rfl
  have xC27 : (clB K 27 ["make", "groups"]) = true := exAt0 ex_0 36 rfl
  have xIN27 : (inB_ K 27) = true := exAt0 ex_0 37 rfl
  have xMK27 : (mkB K 27) = true := exAt0 ex_0 38 rfl
  have xNF27_0 : (PySem.W.notFirst K (clsK K 27) (.ref (clsK K 27))) = true := exAt0 ex_0 39 rfl
  have xPR27_delay_row : (prB K 27 "delay_row") = true := exAt0 ex_0 40 rfl
  have xPR27_front_row : (prB K 27 "front_row") = true := exAt0 ex_0 41 rfl
  have xPR27_rest_length : (prB K 27 "rest_length") = true := exAt0 ex_0 42 rfl
  have xPR27_pairs : (prB K 27 "pairs") = true := exAt0 ex_0 43 rfl
  have xME27___eq__ : (meB K 27 "__eq__") = true := exAt0 ex_0 44 rfl
  have xC30 : (clB K 30 ["make", "head", "part", "tail"]) = true := exAt0 ex_0 45 rfl
  have xIN30 : (inB_ K 30) = true := exAt0 ex_0 46 rfl
  have xMK30 : (mkB K 30) = true := exAt0 ex_0 47 rfl
  have xNF30_0 : (PySem.W.notFirst K (clsK K 30) (.ref (clsK K 30))) = true := exAt0 ex_0 48 rfl
  have xNF30_1 : (PySem.W.notFirst K (clsK K 30) (.type "int")) = true := exAt0 ex_0 49 rfl
  have xNF30_2 : (PySem.W.notFirst K (clsK K 30) (.type "NoneType")) = true := exAt0 ex_0 50 rfl
  have xNF30_3 : (PySem.W.notFirst K (clsK K 30) (.type "str")) = true := exAt0 ex_0 51 rfl
  have xNF30_4 : (PySem.W.notFirst K (clsK K 30) (.type "tuple")) = true := exAt0 ex_0 52 rfl
  have xME30___eq__ : (meB K 30 "__eq__") = true := exAt0 ex_0 53 rfl
  have xME30_column_of : (meB K 30 "column_of") = true := exAt0 ex_0 54 rfl
  have xME30_delay_of : (meB K 30 "delay_of") = true := exAt0 ex_0 55 rfl
  have xME30_length_of : (meB K 30 "length_of") = true := exAt0 ex_0 56 rfl
  have xME30_delay_of_part : (meB K 30 "delay_of_part") = true := exAt0 ex_0 57 rfl
  have xME30_length_of_part : (meB K 30 "length_of_part") = true := exAt0 ex_0 58 rfl
  have xDF_Make___init__ : (dfB K (mAd K 26 "__init__")) = true := exAt0 ex_0 59 rfl
  have nb : NB mg := fun x m => He.free_ok X G (List.all_eq_true.mp xNB x (show x ∈ bltH from m))
  have hit : mg "iter" = none := He.free_ok X G xIT
  have gl_0 : ∀ x ∈ gl0, mg x = some (.ref (He.ga K x)) := fun x m => He.glo_ok X G (List.all_eq_true.mp xGL0 x m)
  have gl_1 : ∀ x ∈ gl1, mg x = some (.ref (He.ga K x)) := fun x m => He.glo_ok X G (List.all_eq_true.mp xGL1 x m)
  have g_is_integer : mg "is_integer" = some (.ref (He.ga K "is_integer")) := gl_0 "is_integer" (by decide +kernel)
  have g_in_bounds : mg "in_bounds" = some (.ref (He.ga K "in_bounds")) := gl_0 "in_bounds" (by decide +kernel)
  have g_is_tuple : mg "is_tuple" = some (.ref (He.ga K "is_tuple")) := gl_0 "is_tuple" (by decide +kernel)
  have g_is_letter : mg "is_letter" = some (.ref (He.ga K "is_letter")) := gl_0 "is_letter" (by decide +kernel)
  have g_is_rising : mg "is_rising" = some (.ref (He.ga K "is_rising")) := gl_0 "is_rising" (by decide +kernel)
  have g_frozen : mg "frozen" = some (.ref (He.ga K "frozen")) := gl_0 "frozen" (by decide +kernel)
  have g_misplaced : mg "misplaced" = some (.ref (He.ga K "misplaced")) := gl_0 "misplaced" (by decide +kernel)
  have g_is_text : mg "is_text" = some (.ref (He.ga K "is_text")) := gl_0 "is_text" (by decide +kernel)
  have g_are_words : mg "are_words" = some (.ref (He.ga K "are_words")) := gl_0 "are_words" (by decide +kernel)
  have g_check_words : mg "check_words" = some (.ref (He.ga K "check_words")) := gl_0 "check_words" (by decide +kernel)
  have g_check_number : mg "check_number" = some (.ref (He.ga K "check_number")) := gl_0 "check_number" (by decide +kernel)
  have g_is_standing : mg "is_standing" = some (.ref (He.ga K "is_standing")) := gl_0 "is_standing" (by decide +kernel)
  have g_is_rest : mg "is_rest" = some (.ref (He.ga K "is_rest")) := gl_0 "is_rest" (by decide +kernel)
  have g_wrong_standing : mg "wrong_standing" = some (.ref (He.ga K "wrong_standing")) := gl_0 "wrong_standing" (by decide +kernel)
  have g_is_kind : mg "is_kind" = some (.ref (He.ga K "is_kind")) := gl_0 "is_kind" (by decide +kernel)
  have g_check_kinds : mg "check_kinds" = some (.ref (He.ga K "check_kinds")) := gl_0 "check_kinds" (by decide +kernel)
  have g_is_seat : mg "is_seat" = some (.ref (He.ga K "is_seat")) := gl_0 "is_seat" (by decide +kernel)
  have g_check_seats : mg "check_seats" = some (.ref (He.ga K "check_seats")) := gl_0 "check_seats" (by decide +kernel)
  have g__law_draw : mg "_law_draw" = some (.ref (He.ga K "_law_draw")) := gl_0 "_law_draw" (by decide +kernel)
  have g__law_mix : mg "_law_mix" = some (.ref (He.ga K "_law_mix")) := gl_0 "_law_mix" (by decide +kernel)
  have g__law_pick : mg "_law_pick" = some (.ref (He.ga K "_law_pick")) := gl_0 "_law_pick" (by decide +kernel)
  have g__law_is_int : mg "_law_is_int" = some (.ref (He.ga K "_law_is_int")) := gl_0 "_law_is_int" (by decide +kernel)
  have g__law_words : mg "_law_words" = some (.ref (He.ga K "_law_words")) := gl_0 "_law_words" (by decide +kernel)
  have g__law_names : mg "_law_names" = some (.ref (He.ga K "_law_names")) := gl_0 "_law_names" (by decide +kernel)
  have g__law_drill : mg "_law_drill" = some (.ref (He.ga K "_law_drill")) := gl_0 "_law_drill" (by decide +kernel)
  have g__law_even_drill : mg "_law_even_drill" = some (.ref (He.ga K "_law_even_drill")) := gl_0 "_law_even_drill" (by decide +kernel)
  have g__law_make : mg "_law_make" = some (.ref (He.ga K "_law_make")) := gl_0 "_law_make" (by decide +kernel)
  have g__law_kind : mg "_law_kind" = some (.ref (He.ga K "_law_kind")) := gl_0 "_law_kind" (by decide +kernel)
  have g__law_seat : mg "_law_seat" = some (.ref (He.ga K "_law_seat")) := gl_0 "_law_seat" (by decide +kernel)
  have g__law_all_names : mg "_law_all_names" = some (.ref (He.ga K "_law_all_names")) := gl_0 "_law_all_names" (by decide +kernel)
  have g__law_text : mg "_law_text" = some (.ref (He.ga K "_law_text")) := gl_1 "_law_text" (by decide +kernel)
  have g__law_column : mg "_law_column" = some (.ref (He.ga K "_law_column")) := gl_1 "_law_column" (by decide +kernel)
  have g__law_refusal : mg "_law_refusal" = some (.ref (He.ga K "_law_refusal")) := gl_1 "_law_refusal" (by decide +kernel)
  have g__law_made : mg "_law_made" = some (.ref (He.ga K "_law_made")) := gl_1 "_law_made" (by decide +kernel)
  have g__law_asked : mg "_law_asked" = some (.ref (He.ga K "_law_asked")) := gl_1 "_law_asked" (by decide +kernel)
  have g__law_strings : mg "_law_strings" = some (.ref (He.ga K "_law_strings")) := gl_1 "_law_strings" (by decide +kernel)
  have g__law_great : mg "_law_great" = some (.ref (He.ga K "_law_great")) := gl_1 "_law_great" (by decide +kernel)
  have g__law_measures : mg "_law_measures" = some (.ref (He.ga K "_law_measures")) := gl_1 "_law_measures" (by decide +kernel)
  have g__law_column_true : mg "_law_column_true" = some (.ref (He.ga K "_law_column_true")) := gl_1 "_law_column_true" (by decide +kernel)
  have g__law_numbers_true : mg "_law_numbers_true" = some (.ref (He.ga K "_law_numbers_true")) := gl_1 "_law_numbers_true" (by decide +kernel)
  have g__law_longer : mg "_law_longer" = some (.ref (He.ga K "_law_longer")) := gl_1 "_law_longer" (by decide +kernel)
  have g__law_alike_true : mg "_law_alike_true" = some (.ref (He.ga K "_law_alike_true")) := gl_1 "_law_alike_true" (by decide +kernel)
  have g__law_bad_numbers : mg "_law_bad_numbers" = some (.ref (He.ga K "_law_bad_numbers")) := gl_1 "_law_bad_numbers" (by decide +kernel)
  have g__law_bad_word : mg "_law_bad_word" = some (.ref (He.ga K "_law_bad_word")) := gl_1 "_law_bad_word" (by decide +kernel)
  have g__law_bad_words : mg "_law_bad_words" = some (.ref (He.ga K "_law_bad_words")) := gl_1 "_law_bad_words" (by decide +kernel)
  have g_law : mg "law" = some (.ref (He.ga K "law")) := gl_1 "law" (by decide +kernel)
  have g_TailError : mg "TailError" = some (.ref (He.ga K "TailError")) := gl_1 "TailError" (by decide +kernel)
  have g_BadWords : mg "BadWords" = some (.ref (He.ga K "BadWords")) := gl_1 "BadWords" (by decide +kernel)
  have g_BadKind : mg "BadKind" = some (.ref (He.ga K "BadKind")) := gl_1 "BadKind" (by decide +kernel)
  have g_BadSpace : mg "BadSpace" = some (.ref (He.ga K "BadSpace")) := gl_1 "BadSpace" (by decide +kernel)
  have g_BadSeat : mg "BadSeat" = some (.ref (He.ga K "BadSeat")) := gl_1 "BadSeat" (by decide +kernel)
  have g_BadColumn : mg "BadColumn" = some (.ref (He.ga K "BadColumn")) := gl_1 "BadColumn" (by decide +kernel)
  have g_BadNumber : mg "BadNumber" = some (.ref (He.ga K "BadNumber")) := gl_1 "BadNumber" (by decide +kernel)
  have g_Twice : mg "Twice" = some (.ref (He.ga K "Twice")) := gl_1 "Twice" (by decide +kernel)
  have g_Unknown : mg "Unknown" = some (.ref (He.ga K "Unknown")) := gl_1 "Unknown" (by decide +kernel)
  have g_BadFile : mg "BadFile" = some (.ref (He.ga K "BadFile")) := gl_1 "BadFile" (by decide +kernel)
  have g_Drill : mg "Drill" = some (.ref (He.ga K "Drill")) := gl_1 "Drill" (by decide +kernel)
  have g_Make : mg "Make" = some (.ref (He.ga K "Make")) := gl_1 "Make" (by decide +kernel)
  have g_Column : mg "Column" = some (.ref (He.ga K "Column")) := gl_1 "Column" (by decide +kernel)
  have g_File : mg "File" = some (.ref (He.ga K "File")) := gl_1 "File" (by decide +kernel)
  have e := hfa.symm.trans g_law
  cases e
  obtain ⟨t_MOST_NAMES, h_MOST_NAMES⟩ := He.int_ok X G xI_MOST_NAMES
  obtain ⟨t_MOST_GROUPS, h_MOST_GROUPS⟩ := He.int_ok X G xI_MOST_GROUPS
  obtain ⟨t_MOST_STANDINGS, h_MOST_STANDINGS⟩ := He.int_ok X G xI_MOST_STANDINGS
  obtain ⟨t_MOST_KINDS, h_MOST_KINDS⟩ := He.int_ok X G xI_MOST_KINDS
  obtain ⟨t_MOST_LAG, h_MOST_LAG⟩ := He.int_ok X G xI_MOST_LAG
  obtain ⟨t_MOST_SPACE, h_MOST_SPACE⟩ := He.int_ok X G xI_MOST_SPACE
  obtain ⟨t_MOST_SEAT, h_MOST_SEAT⟩ := He.int_ok X G xI_MOST_SEAT
  obtain ⟨t_SMALL, h_SMALL⟩ := He.str_ok X G xS_SMALL
  obtain ⟨t_CAPITALS, h_CAPITALS⟩ := He.str_ok X G xS_CAPITALS
  have e2 : ErV K 2 "words" := erB_ok xE2
  have e6 : ErV K 6 "number" := erB_ok xE6
  have e7 : ErV K 7 "space" := erB_ok xE7
  have e8 : ErV K 8 "number" := erB_ok xE8
  have e9 : ErV K 9 "number" := erB_ok xE9
  have e10 : ErV K 10 "number" := erB_ok xE10
  have e11 : ErV K 11 "name" := erB_ok xE11
  have e12 : ErV K 12 "name" := erB_ok xE12
  have e17 : ErV K 17 "word" := erB_ok xE17
  obtain ⟨d_is_integer, F_is_integer⟩ := c.fn 0 (d := _) rfl rfl
  obtain ⟨d_in_bounds, F_in_bounds⟩ := c.fn 1 (d := _) rfl rfl
  obtain ⟨d_is_tuple, F_is_tuple⟩ := c.fn 2 (d := _) rfl rfl
  obtain ⟨d_is_letter, F_is_letter⟩ := c.fn 3 (d := _) rfl rfl
  obtain ⟨d_is_rising, F_is_rising⟩ := c.fn 4 (d := _) rfl rfl
  obtain ⟨d_frozen, F_frozen⟩ := c.fn 5 (d := _) rfl rfl
  obtain ⟨d_misplaced, F_misplaced⟩ := c.fn 6 (d := _) rfl rfl
  obtain ⟨d_is_text, F_is_text⟩ := c.fn 7 (d := _) rfl rfl
  obtain ⟨d_are_words, F_are_words⟩ := c.fn 8 (d := _) rfl rfl
  obtain ⟨d_check_words, F_check_words⟩ := c.fn 9 (d := _) rfl rfl
  obtain ⟨d_check_number, F_check_number⟩ := c.fn 10 (d := _) rfl rfl
  obtain ⟨d_is_standing, F_is_standing⟩ := c.fn 11 (d := _) rfl rfl
  obtain ⟨d_is_rest, F_is_rest⟩ := c.fn 12 (d := _) rfl rfl
  obtain ⟨d_wrong_standing, F_wrong_standing⟩ := c.fn 13 (d := _) rfl rfl
  obtain ⟨d_is_kind, F_is_kind⟩ := c.fn 14 (d := _) rfl rfl
  obtain ⟨d_check_kinds, F_check_kinds⟩ := c.fn 15 (d := _) rfl rfl
  obtain ⟨d_is_seat, F_is_seat⟩ := c.fn 16 (d := _) rfl rfl
  obtain ⟨d_check_seats, F_check_seats⟩ := c.fn 17 (d := _) rfl rfl
  obtain ⟨d__law_draw, F__law_draw⟩ := c.fn 18 (d := _) rfl rfl
  obtain ⟨d__law_mix, F__law_mix⟩ := c.fn 19 (d := _) rfl rfl
  obtain ⟨d__law_pick, F__law_pick⟩ := c.fn 20 (d := _) rfl rfl
  obtain ⟨d__law_is_int, F__law_is_int⟩ := c.fn 21 (d := _) rfl rfl
  obtain ⟨d__law_words, F__law_words⟩ := c.fn 22 (d := _) rfl rfl
  obtain ⟨d__law_names, F__law_names⟩ := c.fn 23 (d := _) rfl rfl
  obtain ⟨d__law_drill, F__law_drill⟩ := c.fn 24 (d := _) rfl rfl
  obtain ⟨d__law_even_drill, F__law_even_drill⟩ := c.fn 25 (d := _) rfl rfl
  obtain ⟨d__law_make, F__law_make⟩ := c.fn 26 (d := _) rfl rfl
  obtain ⟨d__law_kind, F__law_kind⟩ := c.fn 27 (d := _) rfl rfl
  obtain ⟨d__law_seat, F__law_seat⟩ := c.fn 28 (d := _) rfl rfl
  obtain ⟨d__law_all_names, F__law_all_names⟩ := c.fn 29 (d := _) rfl rfl
  obtain ⟨d__law_text, F__law_text⟩ := c.fn 30 (d := _) rfl rfl
  obtain ⟨d__law_column, F__law_column⟩ := c.fn 31 (d := _) rfl rfl
  obtain ⟨d__law_refusal, F__law_refusal⟩ := c.fn 32 (d := _) rfl rfl
  obtain ⟨d__law_made, F__law_made⟩ := c.fn 33 (d := _) rfl rfl
  obtain ⟨d__law_asked, F__law_asked⟩ := c.fn 34 (d := _) rfl rfl
  obtain ⟨d__law_strings, F__law_strings⟩ := c.fn 35 (d := _) rfl rfl
  obtain ⟨d__law_great, F__law_great⟩ := c.fn 36 (d := _) rfl rfl
  obtain ⟨d__law_measures, F__law_measures⟩ := c.fn 37 (d := _) rfl rfl
  obtain ⟨d__law_column_true, F__law_column_true⟩ := c.fn 38 (d := _) rfl rfl
  obtain ⟨d__law_numbers_true, F__law_numbers_true⟩ := c.fn 39 (d := _) rfl rfl
  obtain ⟨d__law_longer, F__law_longer⟩ := c.fn 40 (d := _) rfl rfl
  obtain ⟨d__law_alike_true, F__law_alike_true⟩ := c.fn 41 (d := _) rfl rfl
  obtain ⟨d__law_bad_numbers, F__law_bad_numbers⟩ := c.fn 42 (d := _) rfl rfl
  obtain ⟨d__law_bad_word, F__law_bad_word⟩ := c.fn 43 (d := _) rfl rfl
  obtain ⟨d__law_bad_words, F__law_bad_words⟩ := c.fn 44 (d := _) rfl rfl
  obtain ⟨d_law, F_law⟩ := c.fn 45 (d := _) rfl rfl
  obtain ⟨d_Make___init__, F_Make___init__⟩ := c.fnD 46 (d := _) rfl rfl xDF_Make___init__
  obtain ⟨d_Make___eq__, F_Make___eq__⟩ := c.fn 47 (d := _) rfl rfl
  obtain ⟨d_Make_all_names, F_Make_all_names⟩ := c.fn 48 (d := _) rfl rfl
  obtain ⟨d_Make_lag_of, F_Make_lag_of⟩ := c.fn 49 (d := _) rfl rfl
  obtain ⟨d_Make_seat_of, F_Make_seat_of⟩ := c.fn 50 (d := _) rfl rfl
  obtain ⟨d_Make_body_of, F_Make_body_of⟩ := c.fn 51 (d := _) rfl rfl
  obtain ⟨d_Make_check_name, F_Make_check_name⟩ := c.fn 52 (d := _) rfl rfl
  obtain ⟨d_Column___init__, F_Column___init__⟩ := c.fn 53 (d := _) rfl rfl
  obtain ⟨d_Column___eq__, F_Column___eq__⟩ := c.fn 54 (d := _) rfl rfl
  obtain ⟨d_Column_delay_row, F_Column_delay_row⟩ := c.fn 55 (d := _) rfl rfl
  obtain ⟨d_Column_front_row, F_Column_front_row⟩ := c.fn 56 (d := _) rfl rfl
  obtain ⟨d_Column_rest_length, F_Column_rest_length⟩ := c.fn 57 (d := _) rfl rfl
  obtain ⟨d_Column_pairs, F_Column_pairs⟩ := c.fn 58 (d := _) rfl rfl
  obtain ⟨d_File___init__, F_File___init__⟩ := c.fn 59 (d := _) rfl rfl
  obtain ⟨d_File___eq__, F_File___eq__⟩ := c.fn 60 (d := _) rfl rfl
  obtain ⟨d_File_column_of, F_File_column_of⟩ := c.fn 61 (d := _) rfl rfl
  obtain ⟨d_File_delay_of, F_File_delay_of⟩ := c.fn 62 (d := _) rfl rfl
  obtain ⟨d_File_length_of, F_File_length_of⟩ := c.fn 63 (d := _) rfl rfl
  obtain ⟨d_File_delay_of_part, F_File_delay_of_part⟩ := c.fn 64 (d := _) rfl rfl
  obtain ⟨d_File_length_of_part, F_File_length_of_part⟩ := c.fn 65 (d := _) rfl rfl
  obtain ⟨d_BadWords___init__, F_BadWords___init__⟩ := c.fn 66 (d := _) rfl rfl
  obtain ⟨d_BadKind___init__, F_BadKind___init__⟩ := c.fn 67 (d := _) rfl rfl
  obtain ⟨d_BadSpace___init__, F_BadSpace___init__⟩ := c.fn 68 (d := _) rfl rfl
  obtain ⟨d_BadSeat___init__, F_BadSeat___init__⟩ := c.fn 69 (d := _) rfl rfl
  obtain ⟨d_BadColumn___init__, F_BadColumn___init__⟩ := c.fn 70 (d := _) rfl rfl
  obtain ⟨d_BadNumber___init__, F_BadNumber___init__⟩ := c.fn 71 (d := _) rfl rfl
  obtain ⟨d_Twice___init__, F_Twice___init__⟩ := c.fn 72 (d := _) rfl rfl
  obtain ⟨d_Unknown___init__, F_Unknown___init__⟩ := c.fn 73 (d := _) rfl rfl
  obtain ⟨d_BadFile___init__, F_BadFile___init__⟩ := c.fn 74 (d := _) rfl rfl
  refine ⟨d_law, fun s v => b_lawTo F_law, fun base _ _ => ?_⟩
  have X_BadWords : Er P w K mg base (clsK K) "BadWords" 2 ["words"] := er_mk e2 g_BadWords (xinit1 F_BadWords___init__ sc_e2 e2.o e2.fl (by rfl)) (b_BadWords___init__ F_BadWords___init__)
  have X_BadKind : Er P w K mg base (clsK K) "BadKind" 6 ["number"] := er_mk e6 g_BadKind (xinit1 F_BadKind___init__ sc_e6 e6.o e6.fl (by rfl)) (b_BadKind___init__ F_BadKind___init__)
  have X_BadSpace : Er P w K mg base (clsK K) "BadSpace" 7 ["space"] := er_mk e7 g_BadSpace (xinit1 F_BadSpace___init__ sc_e7 e7.o e7.fl (by rfl)) (b_BadSpace___init__ F_BadSpace___init__)
  have X_BadSeat : Er P w K mg base (clsK K) "BadSeat" 8 ["number"] := er_mk e8 g_BadSeat (xinit1 F_BadSeat___init__ sc_e8 e8.o e8.fl (by rfl)) (b_BadSeat___init__ F_BadSeat___init__)
  have X_BadColumn : Er P w K mg base (clsK K) "BadColumn" 9 ["number"] := er_mk e9 g_BadColumn (xinit1 F_BadColumn___init__ sc_e9 e9.o e9.fl (by rfl)) (b_BadColumn___init__ F_BadColumn___init__)
  have X_BadNumber : Er P w K mg base (clsK K) "BadNumber" 10 ["number"] := er_mk e10 g_BadNumber (xinit1 F_BadNumber___init__ sc_e10 e10.o e10.fl (by rfl)) (b_BadNumber___init__ F_BadNumber___init__)
  have X_Twice : Er P w K mg base (clsK K) "Twice" 11 ["name"] := er_mk e11 g_Twice (xinit1 F_Twice___init__ sc_e11 e11.o e11.fl (by rfl)) (b_Twice___init__ F_Twice___init__)
  have X_Unknown : Er P w K mg base (clsK K) "Unknown" 12 ["name"] := er_mk e12 g_Unknown (xinit1 F_Unknown___init__ sc_e12 e12.o e12.fl (by rfl)) (b_Unknown___init__ F_Unknown___init__)
  have X_BadFile : Er P w K mg base (clsK K) "BadFile" 17 ["word"] := er_mk e17 g_BadFile (xinit1 F_BadFile___init__ sc_e17 e17.o e17.fl (by rfl)) (b_BadFile___init__ F_BadFile___init__)
  obtain ⟨cl25, no25⟩ := clB_ok xC25
  have C25 : DrC K (clsK K 25) := ⟨cl25, no25 "words" (by decide +kernel), no25 "standings" (by decide +kernel)⟩
  have mk25 := mkB_ok xMK25
  have co25_REST := rdB_ok xCO25_REST
  obtain ⟨cl26, no26⟩ := clB_ok xC26
  have C26 : MkC K (clsK K 26) := ⟨cl26, no26 "words" (by decide +kernel), no26 "kinds" (by decide +kernel), no26 "space" (by decide +kernel), no26 "seats" (by decide +kernel), no26 "_names" (by decide +kernel), no26 "_kind_of" (by decide +kernel), no26 "_paces" (by decide +kernel)⟩
  obtain ⟨in26, ya26, na26⟩ := inB_ok cl26 xIN26
  have I26 : MkI K mg "Make" (clsK K 26) := ⟨g_Make, in26, ya26, na26⟩
  have mk26 := mkB_ok xMK26
  have nf26_0 : PySem.W.notFirst K (clsK K 26) (.ref (clsK K 26)) = true := xNF26_0
  have pr26_all_names := prB_ok xPR26_all_names
  have me26___eq__ := meB_ok xME26___eq__
  have me26_lag_of := meB_ok xME26_lag_of
  have me26_seat_of := meB_ok xME26_seat_of
  have me26_body_of := meB_ok xME26_body_of
  have me26_check_name := meB_ok xME26_check_name
  obtain ⟨cl27, no27⟩ := clB_ok xC27
  have C27 : ClC K (clsK K 27) := ⟨cl27, no27 "make" (by decide +kernel), no27 "groups" (by decide +kernel)⟩
  obtain ⟨in27, ya27, na27⟩ := inB_ok cl27 xIN27
  have I27 : MkI K mg "Column" (clsK K 27) := ⟨g_Column, in27, ya27, na27⟩
  have mk27 := mkB_ok xMK27
  have nf27_0 : PySem.W.notFirst K (clsK K 27) (.ref (clsK K 27)) = true := xNF27_0
  have pr27_delay_row := prB_ok xPR27_delay_row
  have pr27_front_row := prB_ok xPR27_front_row
  have pr27_rest_length := prB_ok xPR27_rest_length
  have pr27_pairs := prB_ok xPR27_pairs
  have me27___eq__ := meB_ok xME27___eq__
  obtain ⟨cl30, no30⟩ := clB_ok xC30
  have C30 : FlC K (clsK K 30) := ⟨cl30, no30 "make" (by decide +kernel), no30 "head" (by decide +kernel), no30 "part" (by decide +kernel), no30 "tail" (by decide +kernel)⟩
  obtain ⟨in30, ya30, na30⟩ := inB_ok cl30 xIN30
  have I30 : MkI K mg "File" (clsK K 30) := ⟨g_File, in30, ya30, na30⟩
  have mk30 := mkB_ok xMK30
  have nf30_0 : PySem.W.notFirst K (clsK K 30) (.ref (clsK K 30)) = true := xNF30_0
  have nf30_1 : PySem.W.notFirst K (clsK K 30) (.type "int") = true := xNF30_1
  have nf30_2 : PySem.W.notFirst K (clsK K 30) (.type "NoneType") = true := xNF30_2
  have nf30_3 : PySem.W.notFirst K (clsK K 30) (.type "str") = true := xNF30_3
  have nf30_4 : PySem.W.notFirst K (clsK K 30) (.type "tuple") = true := xNF30_4
  have me30___eq__ := meB_ok xME30___eq__
  have me30_column_of := meB_ok xME30_column_of
  have me30_delay_of := meB_ok xME30_delay_of
  have me30_length_of := meB_ok xME30_length_of
  have me30_delay_of_part := meB_ok xME30_delay_of_part
  have me30_length_of_part := meB_ok xME30_length_of_part
  have R25 : DrR K mg (clsK K 25) := by
    obtain ⟨r1, u, r2, r3, r4, r5⟩ := co25_REST
    exact ⟨g_Drill, r1, ⟨u, r2, r3⟩, ⟨u, r4, r3, r5, by decide +kernel⟩⟩
  have KE : KEmp K (dT0 K (mAd K 26 "__init__")) := (dfB_ok xDF_Make___init__).1
  have TT : ErG4 K mg (clsK K) := ⟨g_BadFile, g_BadNumber, g_BadColumn, g_TailError, fun k hk => by
    simp only [errs4, List.mem_cons, List.not_mem_nil, or_false] at hk
    rcases hk with rfl | rfl | rfl
    · exact e17.exc
    · exact e10.exc
    · exact e9.exc, fun k hk => by
    simp only [errs4, List.mem_cons, List.not_mem_nil, or_false] at hk
    rcases hk with rfl | rfl | rfl
    · exact e17.xf
    · exact e10.xf
    · exact e9.xf, fun i hi j hj => of_decide_eq_true (List.all_eq_true.mp (List.all_eq_true.mp xKK i hi) j hj), fun k hk => by
    simp only [errs4, List.mem_cons, List.not_mem_nil, or_false] at hk
    rcases hk with rfl | rfl | rfl
    · exact e17.fl
    · exact e10.fl
    · exact e9.fl, fun k hk => by
    simp only [errs4, List.mem_cons, List.not_mem_nil, or_false] at hk
    rcases hk with rfl | rfl | rfl
    · exact e17.em
    · exact e10.em
    · exact e9.em⟩
  have D_is_integer : Df P w K mg base (clsK K) "is_integer" 1 ["thing"] fs_is_integer := ⟨_, _, ok_is_integer nb F_is_integer, g_is_integer, F_is_integer.kp, b_is_integer F_is_integer⟩
  have D_in_bounds : Df P w K mg base (clsK K) "in_bounds" 2 ["thing", "least", "most"] fs_in_bounds := ⟨_, _, ok_in_bounds nb D_is_integer F_in_bounds, g_in_bounds, F_in_bounds.kp, b_in_bounds F_in_bounds⟩
  have D_is_tuple : Df P w K mg base (clsK K) "is_tuple" 1 ["thing", "least", "most"] fs_is_tuple := ⟨_, _, ok_is_tuple nb F_is_tuple, g_is_tuple, F_is_tuple.kp, b_is_tuple F_is_tuple⟩
  have D_is_letter : Df P w K mg base (clsK K) "is_letter" 1 ["thing", "letters"] fs_is_letter := ⟨_, _, ok_is_letter nb F_is_letter, g_is_letter, F_is_letter.kp, b_is_letter F_is_letter⟩
  have D_is_rising : Df P w K mg base (clsK K) "is_rising" 1 ["row"] fs_is_rising := ⟨_, _, ok_is_rising nb F_is_rising, g_is_rising, F_is_rising.kp, b_is_rising F_is_rising⟩
  have D_frozen : ∀ n, Df P w K mg base (clsK K) "frozen" (n + 1) ["thing"] (fs_frozen n) := fun n => ⟨_, _, (ok_frozen nb F_frozen g_frozen (b_frozen F_frozen) n), g_frozen, F_frozen.kp, b_frozen F_frozen⟩
  have D_frozenE : Df P w K mg base (clsK K) "frozen" 1 ["thing"] (fs_frozenE K) := ⟨_, _, ok_frozenE nb F_frozen, g_frozen, F_frozen.kp, b_frozen F_frozen⟩
  have D_misplaced : Df P w K mg base (clsK K) "misplaced" 1 ["text", "letters", "least", "most"] fs_misplaced := ⟨_, _, ok_misplaced nb F_misplaced, g_misplaced, F_misplaced.kp, b_misplaced F_misplaced⟩
  have D_is_text : Df P w K mg base (clsK K) "is_text" 2 ["thing", "letters", "least", "most"] fs_is_text := ⟨_, _, ok_is_text D_misplaced F_is_text, g_is_text, F_is_text.kp, b_is_text F_is_text⟩
  have D_are_words : Df P w K mg base (clsK K) "are_words" 3 ["thing"] fs_are_words := ⟨_, _, ok_are_words h_SMALL D_is_text D_is_rising F_are_words, g_are_words, F_are_words.kp, b_are_words F_are_words⟩
  have D_check_words : Df P w K mg base (clsK K) "check_words" 4 ["words"] fs_check_words := ⟨_, _, ok_check_words D_are_words X_BadWords F_check_words, g_check_words, F_check_words.kp, b_check_words F_check_words⟩
  have D_check_number : Df P w K mg base (clsK K) "check_number" 3 ["n"] fs_cnum := ⟨_, _, ok_cnum nb D_is_integer X_BadNumber F_check_number, g_check_number, F_check_number.kp, b_check_number F_check_number⟩
  have D_is_standing : Df P w K mg base (clsK K) "is_standing" 3 ["row", "signs", "many"] fs_is_standing := ⟨_, _, ok_is_standing nb D_is_tuple D_in_bounds F_is_standing, g_is_standing, F_is_standing.kp, b_is_standing F_is_standing⟩
  have D_is_rest : Df P w K mg base (clsK K) "is_rest" 1 ["row"] fs_is_rest := ⟨_, _, ok_is_rest F_is_rest, g_is_rest, F_is_rest.kp, b_is_rest F_is_rest⟩
  have D_wrong_standing : Df P w K mg base (clsK K) "wrong_standing" 4 ["words", "rows"] fs_wrong := ⟨_, _, ok_wrong nb h_MOST_STANDINGS D_is_tuple D_is_standing D_is_rest F_wrong_standing, g_wrong_standing, F_wrong_standing.kp, b_wrong_standing F_wrong_standing⟩
  have D_is_kind : Df P w K mg base (clsK K) "is_kind" 5 ["words", "row"] fs_is_kind := ⟨_, _, ok_is_kind nb h_CAPITALS h_MOST_LAG D_is_tuple D_is_letter D_in_bounds D_wrong_standing F_is_kind, g_is_kind, F_is_kind.kp, b_is_kind F_is_kind⟩
  have D_check_kinds : Df P w K mg base (clsK K) "check_kinds" 6 ["words", "rows"] fs_check_kinds := ⟨_, _, ok_check_kinds nb h_MOST_KINDS D_is_tuple D_is_kind X_BadKind X_Twice F_check_kinds, g_check_kinds, F_check_kinds.kp, b_check_kinds F_check_kinds⟩
  have D_is_seat : Df P w K mg base (clsK K) "is_seat" 3 ["names", "row"] fs_is_seat := ⟨_, _, ok_is_seat nb h_MOST_SEAT D_is_tuple D_is_letter D_in_bounds F_is_seat, g_is_seat, F_is_seat.kp, b_is_seat F_is_seat⟩
  have D_check_seats : Df P w K mg base (clsK K) "check_seats" 4 ["names", "rows"] fs_check_seats := ⟨_, _, ok_check_seats nb D_is_seat X_BadSeat F_check_seats, g_check_seats, F_check_seats.kp, b_check_seats F_check_seats⟩
  have D__law_mix : Df P w K mg base (clsK K) "_law_mix" 1 ["_law_cell", "_law_turn"] fs_mix := ⟨_, _, ok_mix nb F__law_mix, g__law_mix, F__law_mix.kp, b__law_mix F__law_mix⟩
  have D__law_pick : Df P w K mg base (clsK K) "_law_pick" 2 ["_law_draw_here", "_law_many"] fs_pick := ⟨_, _, ok_pick nb D__law_mix F__law_pick, g__law_pick, F__law_pick.kp, b__law_pick F__law_pick⟩
  have D__law_is_int : Df P w K mg base (clsK K) "_law_is_int" 1 ["_law_thing"] fs_is_integer := ⟨_, _, ok_isint nb F__law_is_int, g__law_is_int, F__law_is_int.kp, b__law_is_int F__law_is_int⟩
  have D__law_words : Df P w K mg base (clsK K) "_law_words" 3 ["_law_draw_here", "_law_many"] fs_words := ⟨_, _, ok_words nb D__law_pick F__law_words, g__law_words, F__law_words.kp, b__law_words F__law_words⟩
  have D__law_names : Df P w K mg base (clsK K) "_law_names" 3 ["_law_draw_here", "_law_many"] fs_names := ⟨_, _, ok_names nb D__law_pick F__law_names, g__law_names, F__law_names.kp, b__law_names F__law_names⟩
  have D__law_drill : Df P w K mg base (clsK K) "_law_drill" 3 ["_law_draw_here", "_law_words_here", "_law_many", "_law_steady"] fs_drill := ⟨_, _, ok_drill nb D__law_pick F__law_drill, g__law_drill, F__law_drill.kp, b__law_drill F__law_drill⟩
  have D__law_even_drill : Df P w K mg base (clsK K) "_law_even_drill" 4 ["_law_draw_here", "_law_words_here", "_law_many", "_law_steady"] fs_drill := ⟨_, _, ok_even nb D__law_pick D__law_drill F__law_even_drill, g__law_even_drill, F__law_even_drill.kp, b__law_even_drill F__law_even_drill⟩
  have D__law_make : Df P w K mg base (clsK K) "_law_make" 5 ["_law_draw_here", "_law_many_words", "_law_many_kinds", "_law_steady"] fs_lmake := ⟨_, _, ok_lmake nb D__law_pick D__law_words D__law_names D__law_drill D__law_even_drill F__law_make, g__law_make, F__law_make.kp, b__law_make F__law_make⟩
  have D__law_kind : Df P w K mg base (clsK K) "_law_kind" 1 ["_law_make_here", "_law_name"] fs_kind := ⟨_, _, ok_kind F__law_kind, g__law_kind, F__law_kind.kp, b__law_kind F__law_kind⟩
  have D__law_seat : Df P w K mg base (clsK K) "_law_seat" 1 ["_law_make_here", "_law_ahead", "_law_behind"] fs_seat := ⟨_, _, ok_seat F__law_seat, g__law_seat, F__law_seat.kp, b__law_seat F__law_seat⟩
  have D__law_all_names : Df P w K mg base (clsK K) "_law_all_names" 1 ["_law_make_here"] fs_all := ⟨_, _, ok_all nb F__law_all_names, g__law_all_names, F__law_all_names.kp, b__law_all_names F__law_all_names⟩
  have D__law_text : Df P w K mg base (clsK K) "_law_text" 3 ["_law_draw_here", "_law_signs", "_law_most"] fs_ltext := ⟨_, _, ok_ltext nb D__law_pick F__law_text, g__law_text, F__law_text.kp, b__law_text F__law_text⟩
  have D__law_column : Df P w K mg base (clsK K) "_law_column" 2 ["_law_make_here", "_law_groups"] fs_columnP := ⟨_, _, ok_column nb D__law_kind D__law_seat F__law_column, g__law_column, F__law_column.kp, b__law_column F__law_column⟩
  have HG__law_refusal : DhG P w K mg base (clsK K) "_law_refusal" fx_refu := ⟨_, _, _, ok_refu nb TT F__law_refusal, g__law_refusal, F__law_refusal.kp, b__law_refusal F__law_refusal⟩
  have D__law_strings : Df P w K mg base (clsK K) "_law_strings" 4 ["_law_draw_here", "_law_names_here"] fs_strings := ⟨_, _, ok_strings nb D__law_pick D__law_text F__law_strings, g__law_strings, F__law_strings.kp, b__law_strings F__law_strings⟩
  have D__law_great : Df P w K mg base (clsK K) "_law_great" 3 ["_law_draw_here"] fs_great := ⟨_, _, ok_great nb D__law_pick F__law_great, g__law_great, F__law_great.kp, b__law_great F__law_great⟩
  have D__law_measures : Df P w K mg base (clsK K) "_law_measures" 3 ["_law_make_here", "_law_groups"] fs_meas := ⟨_, _, ok_meas nb D__law_column D__law_kind F__law_measures, g__law_measures, F__law_measures.kp, b__law_measures F__law_measures⟩
  have D__law_longer : Df P w K mg base (clsK K) "_law_longer" 1 ["_law_word", "_law_name"] fs_longer := ⟨_, _, ok_longer nb F__law_longer, g__law_longer, F__law_longer.kp, b__law_longer F__law_longer⟩
  have D__law_bad_word : Df P w K mg base (clsK K) "_law_bad_word" 3 ["_law_draw_here", "_law_names_here", "_law_word", "_law_is_part"] fs_badw := ⟨_, _, ok_badw nb D__law_pick F__law_bad_word, g__law_bad_word, F__law_bad_word.kp, b__law_bad_word F__law_bad_word⟩
  have M26___eq__ : Dm P w K mg base (clsK K) 26 "__eq__" 1 ["self", "other"] fs_meq := ⟨_, _, ok_meq nb C26 I26 F_Make___eq__, me26___eq__.1, me26___eq__.2, b_Make___eq__ F_Make___eq__⟩
  have P26_all_names : Dp P w K mg base (clsK K) 26 "all_names" 1 fs_mnames := ⟨_, _, _, _, ok_mnames C26 F_Make_all_names, pr26_all_names, b_Make_all_names F_Make_all_names⟩
  have M26_body_of : Dm P w K mg base (clsK K) 26 "body_of" 1 ["self", "name"] (fun ds rt _ => ∃ z ks sp ss nm n, ds = [mak z ks sp ss nm, .str n] ∧ goodM z ks sp ss nm ∧ n ∈ ks.map (·.1) ∧ rt (.int (bodyOf ks n))) := ⟨_, _, ok_mbody C26 R25 F_Make_body_of, me26_body_of.1, me26_body_of.2, b_Make_body_of F_Make_body_of⟩
  have M26_check_name : Dm P w K mg base (clsK K) 26 "check_name" 3 ["self", "name"] fs_chk := ⟨_, _, ok_chk C26 D_is_letter X_Unknown F_Make_check_name, me26_check_name.1, me26_check_name.2, b_Make_check_name F_Make_check_name⟩
  have K_Column : Dk P w K mg base (clsK K) "Column" 27 3 ["make", "groups"] fi_col := ⟨g_Column, _, _, ok_col h_MOST_GROUPS C26 C27 D_misplaced P26_all_names X_BadColumn F_Column___init__, mk27, b_Column___init__ F_Column___init__⟩
  have M27___eq__ : Dm P w K mg base (clsK K) 27 "__eq__" 2 ["self", "other"] fs_ceq := ⟨_, _, ok_ceq nb C27 I27 in26 nf26_0 M26___eq__ F_Column___eq__, me27___eq__.1, me27___eq__.2, b_Column___eq__ F_Column___eq__⟩
  have P27_pairs : Dp P w K mg base (clsK K) 27 "pairs" 1 (fs_crow fun _ _ _ l => .tup (pairsD l)) := ⟨_, _, _, _, ok_pairs nb C27 F_Column_pairs, pr27_pairs, b_Column_pairs F_Column_pairs⟩
  have K_File : Dk P w K mg base (clsK K) "File" 30 3 ["make", "head", "part", "tail"] fi_file := ⟨g_File, _, _, ok_file h_MOST_NAMES C26 C30 D_is_text P26_all_names X_BadFile F_File___init__, mk30, b_File___init__ F_File___init__⟩
  have M30___eq__ : Dm P w K mg base (clsK K) 30 "__eq__" 2 ["self", "other"] fs_feq := ⟨_, _, ok_feq nb C30 I30 in26 nf26_0 M26___eq__ F_File___eq__, me30___eq__.1, me30___eq__.2, b_File___eq__ F_File___eq__⟩
  have M30_column_of : Dm P w K mg base (clsK K) 30 "column_of" 5 ["self", "n"] fs_colof := ⟨_, _, ok_colof h_MOST_GROUPS C30 D_check_number D_in_bounds K_Column X_BadColumn F_File_column_of, me30_column_of.1, me30_column_of.2, b_File_column_of F_File_column_of⟩
  have GM : FnOk P w K mg base (L2N.CX P w) 8 (mAd K 26 "__init__") d_Make___init__ ["self", "words", "kinds", "space", "seats"] (spInit (clsK K) 26 (fi_make K)) := ok_makeD nb h_MOST_SPACE C26 D_check_words (D_frozen 6) D_frozenE D_check_kinds D_in_bounds D_check_seats X_BadSpace F_Make___init__
  obtain ⟨u4, v4, B4⟩ := b_make4 F_Make___init__
  have B4 : Binds K d_Make___init__ ["self", "words", "kinds", "space", "seats"] [] := by cases v4; exact B4
  have K_Make : Dk P w K mg base (clsK K) "Make" 26 8 ["words", "kinds", "space", "seats"] (fi_make K) := ⟨g_Make, _, _, GM, mk26, B4⟩
  have FA : FlAll P w K mg base (clsK K) := ⟨C30, I30, nf30_0, nf30_1, nf30_2, nf30_3, nf30_4, K_File, M30___eq__⟩
  have DG__law_made : DfG P w K mg base (clsK K) "_law_made" 6 ["_law_told", "_law_values"] fs_madeF := ⟨_, _, ok_made28 TT K_File HG__law_refusal F__law_made, g__law_made, F__law_made.kp, b__law_made F__law_made⟩
  have D__law_alike_true : Df P w K mg base (clsK K) "_law_alike_true" 10 ["_law_draw_here", "_law_make_here", "_law_told", "_law_thing", "_law_values", "_law_names_here"] fs_alike := ⟨_, _, ok_alike nb FA in26 nf26_0 M26___eq__ K_Make D__law_pick D__law_longer F__law_alike_true, g__law_alike_true, F__law_alike_true.kp, b__law_alike_true F__law_alike_true⟩
  have DG__law_bad_words : DfG P w K mg base (clsK K) "_law_bad_words" 7 ["_law_draw_here", "_law_told", "_law_values", "_law_names_here"] fs_badws := ⟨_, _, ok_badws nb D__law_bad_word DG__law_made F__law_bad_words, g__law_bad_words, F__law_bad_words.kp, b__law_bad_words F__law_bad_words⟩
  have M26_lag_of : Dm P w K mg base (clsK K) 26 "lag_of" 4 ["self", "name"] (fsN fun _ ks _ _ _ n => .int (kindOf ks n).1) := ⟨_, _, ok_lag C26 M26_check_name F_Make_lag_of, me26_lag_of.1, me26_lag_of.2, b_Make_lag_of F_Make_lag_of⟩
  have M26_seat_of : Dm P w K mg base (clsK K) 26 "seat_of" 4 ["self", "ahead", "behind"] (fun ds rt ex => ∃ z ks sp ss nm d e, ds = [mak z ks sp ss nm, d, e] ∧ goodM z ks sp ss nm ∧ txtOk d ∧ txtOk e ∧ (ltrB d nm = false → ex (xUnk d)) ∧ (ltrB d nm = true → ltrB e nm = false → ex (xUnk e)) ∧ (∀ a b, d = .str a → e = .str b → ltrB d nm = true → ltrB e nm = true → rt (.int (seatOf ss sp a b)))) := ⟨_, _, ok_mseat C26 M26_check_name F_Make_seat_of, me26_seat_of.1, me26_seat_of.2, b_Make_seat_of F_Make_seat_of⟩
  have P27_delay_row : Dp P w K mg base (clsK K) 27 "delay_row" 5 (fs_crow fun ks _ _ l => intsT (delayL ks l)) := ⟨_, _, _, _, ok_delay nb C26 C27 M26_lag_of F_Column_delay_row, pr27_delay_row, b_Column_delay_row F_Column_delay_row⟩
  have P27_front_row : Dp P w K mg base (clsK K) 27 "front_row" 5 (fs_crow fun ks ss sp l => intsT (frontL ks ss sp l)) := ⟨_, _, _, _, ok_front nb C26 C27 M26_body_of M26_seat_of P27_pairs F_Column_front_row, pr27_front_row, b_Column_front_row F_Column_front_row⟩
  have P27_rest_length : Dp P w K mg base (clsK K) 27 "rest_length" 7 (fs_crow fun ks ss sp l => .int (restOf ks ss sp l)) := ⟨_, _, _, _, ok_rest nb C26 C27 M26_body_of P27_front_row F_Column_rest_length, pr27_rest_length, b_Column_rest_length F_Column_rest_length⟩
  have M30_delay_of_part : Dm P w K mg base (clsK K) 30 "delay_of_part" 5 ["self"] (fs_filp fun ks _ _ p => .int (sumLag ks p.cps.toList)) := ⟨_, _, ok_delayp nb C26 C30 M26_lag_of F_File_delay_of_part, me30_delay_of_part.1, me30_delay_of_part.2, b_File_delay_of_part F_File_delay_of_part⟩
  have M30_length_of_part : Dm P w K mg base (clsK K) 30 "length_of_part" 5 ["self"] (fs_filp fun ks ss sp p => .int (sumLen ks ss sp p.cps.toList)) := ⟨_, _, ok_lenp nb (nb "zip" (by decide +kernel)) C26 C30 M26_body_of M26_seat_of F_File_length_of_part, me30_length_of_part.1, me30_length_of_part.2, b_File_length_of_part F_File_length_of_part⟩
  have D__law_column_true : Df P w K mg base (clsK K) "_law_column_true" 9 ["_law_make_here", "_law_told", "_law_column_here", "_law_values", "_law_n"] fs_ctrue := ⟨_, _, ok_ctrue nb C27 I27 nf27_0 in26 nf26_0 M26___eq__ M27___eq__ K_Column P27_delay_row P27_rest_length D__law_measures D__law_is_int F__law_column_true, g__law_column_true, F__law_column_true.kp, b__law_column_true F__law_column_true⟩
  have M30_delay_of : Dm P w K mg base (clsK K) 30 "delay_of" 7 ["self", "n"] (fs_numof fun ks _ _ h p t n => .int (delT ks (grp h p t 1).cps.toList + (n - 1) * sumLag ks p.cps.toList)) := ⟨_, _, ok_delayof C30 C27 D_check_number M30_column_of P27_delay_row M30_delay_of_part F_File_delay_of, me30_delay_of.1, me30_delay_of.2, b_File_delay_of F_File_delay_of⟩
  have M30_length_of : Dm P w K mg base (clsK K) 30 "length_of" 9 ["self", "n"] (fs_numof fun ks ss sp h p t n => .int (restOf ks ss sp (grp h p t 1).cps.toList + (n - 1) * sumLen ks ss sp p.cps.toList)) := ⟨_, _, ok_lengthof C30 C27 D_check_number M30_column_of P27_rest_length M30_length_of_part F_File_length_of, me30_length_of.1, me30_length_of.2, b_File_length_of F_File_length_of⟩
  have DG__law_asked : DfG P w K mg base (clsK K) "_law_asked" 11 ["_law_thing", "_law_which", "_law_n"] fs_askedF := ⟨_, _, ok_asked28 TT C30 M30_column_of M30_delay_of M30_length_of HG__law_refusal F__law_asked, g__law_asked, F__law_asked.kp, b__law_asked F__law_asked⟩
  have DG__law_numbers_true : DfG P w K mg base (clsK K) "_law_numbers_true" 12 ["_law_make_here", "_law_told", "_law_thing", "_law_values", "_law_numbers"] fs_ntrue := ⟨_, _, ok_ntrue nb D__law_measures D__law_is_int DG__law_asked D__law_column_true F__law_numbers_true, g__law_numbers_true, F__law_numbers_true.kp, b__law_numbers_true F__law_numbers_true⟩
  have DG__law_bad_numbers : DfG P w K mg base (clsK K) "_law_bad_numbers" 12 ["_law_draw_here", "_law_thing"] fs_badn := ⟨_, _, ok_badn nb D__law_great DG__law_asked F__law_bad_numbers, g__law_bad_numbers, F__law_bad_numbers.kp, b__law_bad_numbers F__law_bad_numbers⟩
  have LL : LawDefs4 P w K mg base (clsK K) := ⟨D__law_pick, D__law_make, K_Make, D__law_all_names, D__law_strings, DG__law_made, D__law_great, DG__law_numbers_true, D__law_alike_true, DG__law_bad_numbers, DG__law_bad_words, I30⟩
  exact ok_law4 nb LL F__law_draw g__law_draw (b__law_draw F__law_draw) F_law
end
section
set_option maxHeartbeats 0
open PySem PySem.Spec PyProof.Rows L2 Vl
abbrev LW : PySem.W.OpenLaw := PySem.Challenge.rw_tailheard_k28_files_told
theorem topName : (HandSHeadRun.topDef RR.prog 83).name = ("law" : Str) := by kernel_rfl
/-- a law whose exceptions are those of the world it runs in -/
theorem walkW {q : Program} {lo : List Str} {XP : (Str → Option Value) → Heap → Prop} {d : DefRec} (hd0 : d.params.defaults = []) (dn : d.name = ("law" : Str)) : PySem.W.WalkO q lo XP hkR.says LW.row.toRowW d [] (fun g us => PySem.call g us) := by
  refine Att.attach_call (l := LW) (n := 63) rfl hd0 fun w sA sB mg mB fA oA pA cA dA aA vA nA GA YA h1 h2 h3 h4 h5 h6 h7 h8 => ?_
  obtain ⟨K, KX, c⟩ := YA
  rw [dn] at h4
  obtain ⟨fd, hb, hF⟩ := facts (P := LW.prog) (w := w) KX GA.T.g h4 c
  exact lawG KX GA.T.g GA.T.b GA.T.builtins GA.T.nolimit h8 h5 h6 (Nat.le_trans h7 (by decide)) ⟨rfl, by decide, by decide⟩ hF hb (fun H hO hS => ⟨aA, nA, rfl, hS, h7, fun _ => rfl⟩) fun H e s' z => by
    obtain ⟨_, _, _, _, _, _, _, _, _, _, _, _, no⟩ := z
    exact no.elim
end
end K28
set_option maxHeartbeats 0
open PySem PySem.W PySem.Calls PyProof.Rows
theorem PySem.Challenge.cw_tailheard_k28_files_told_holds : PySem.Challenge.rw_tailheard_k28_files_told.Holds := by
  w_on; o_law
  refine HandSHeadRun.head_any (r := K28.RR) (q := view K28.RR.prog [83]) (H := K28.hkR) (ob := K28.obR) (M := 9000) (loose := K28.nms) (d := HandSHeadRun.topDef K28.RR.prog 83) (kwd := []) K28.obR_eq
    (by kernel_rfl) (fun s => by kernel_rfl) K28.runR (by kernel_rfl) (by kernel_rfl) (by kernel_rfl) (by rfl) (by first | assumption | decide +kernel) (by decide +kernel) ⟨rfl, rfl, rfl, rfl, rfl, by decide +kernel⟩ ?hw ?hc
  case hw => w_witness2
  case hc => exact K28.walkW (by kernel_rfl) K28.topName
