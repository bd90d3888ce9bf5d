import PyProof.Rows.All
import HandS.Head3
import HandS.HeadHook2
import HandS.Words
import PySem.Challenge.RW_webreckon_k06_whole_webs_renamed
import Wide.All
import OpenK.AllK
import Wide.FinOn
import HandS.ForMost
import HandS.Walk
import HandS.TupAny
import HandS.WideBits
import HandS.IsInst
import HandS.Replace
import HandS.More
import PyProof.ListStr
import HandS.Conv
import KE.GoesMore
import KE.GoesEnum
import PyProof.Rows.SortShellAny
import HandS.SortOrd
import HandS.TupLe
import HandS.TupSets
import HandS.Small
import HandS.Strs
import HandS.Zip
import HandS.Defaults
import HandS.Ends
import HandS.EndBits
import HandS.RaiseMore
import PyProof.ReprRoads
import PyProof.Rows.RegFStrParts
import HandS.Style
import HandS.ReplaceList
import PyProof.StrLawsIn
import HandS.TupMul
import HandS.CallLocal
import HandS.SetFor
import HandS.Deep
import PyProof.CallFns
import HandS.Gcd
import KE.KMathGC
import HandS.Star
import KE.KDictZip
import KE.SortData
import KE.DataMinMax
import HandS.SortKw
import OpenK.KMake
import HandS.OwnEq
import PyProof.StrBlock2
import HandS.Wide
import HandS.Comp
import PyProof.ToksMono
import HandS.DictComp
import HandS.ListItems
import KE.KDictList
import PyProof.TupleOfSeq
import HandS.SetKeys
import PyProof.DictMoreH
set_option Elab.async false
set_option linter.all false
set_option maxRecDepth 100000
set_option maxHeartbeats 0
namespace K10
open PySem PySem.Spec PyProof.Rows L2
def topR (i : Nat) : Stmt := PySem.Challenge.pw_webreckon_k06_whole_webs_renamed.main.body.getD i (.Pass ⟨0, 0, 0, 0⟩)
/-! ### the program's top, by one run of the kernel -/
def intB (K : PySem.W.Frag) (x : Str) (i : Int) : Bool := match PySem.W.nsIn K mainGlobals x with
  | some (some (.int own _)) => decide (i = own)
  | _ => false
def strB (K : PySem.W.Frag) (x z : Str) : Bool := match PySem.W.nsIn K mainGlobals x with
  | some (some (.str own _)) => decide (z = own)
  | _ => false
def exHd (K : PySem.W.Frag) : Bool := decide (PySem.W.nsIn K mainGlobals "are_letters" = some (some (.ref (He.ga K "are_letters")))) &&
  (decide (PySem.W.nsIn K mainGlobals "are_places" = some (some (.ref (He.ga K "are_places")))) &&
  (decide (PySem.W.nsIn K mainGlobals "is_tie" = some (some (.ref (He.ga K "is_tie")))) &&
  (decide (PySem.W.nsIn K mainGlobals "first_wrong_tie" = some (some (.ref (He.ga K "first_wrong_tie")))) &&
  (decide (PySem.W.nsIn K mainGlobals "check_places" = some (some (.ref (He.ga K "check_places")))) &&
  (decide (PySem.W.nsIn K mainGlobals "check_ties" = some (some (.ref (He.ga K "check_ties")))) &&
  (decide (PySem.W.nsIn K mainGlobals "check_letters" = some (some (.ref (He.ga K "check_letters")))) &&
  (decide (PySem.W.nsIn K mainGlobals "check_web" = some (some (.ref (He.ga K "check_web")))) &&
  (decide (PySem.W.nsIn K mainGlobals "in_order" = some (some (.ref (He.ga K "in_order")))) &&
  (decide (PySem.W.nsIn K mainGlobals "marks" = some (some (.ref (He.ga K "marks")))) &&
  (decide (PySem.W.nsIn K mainGlobals "with_letters" = some (some (.ref (He.ga K "with_letters")))) &&
  (decide (PySem.W.nsIn K mainGlobals "renamed" = some (some (.ref (He.ga K "renamed")))) &&
  (decide (PySem.W.nsIn K mainGlobals "all_orders" = some (some (.ref (He.ga K "all_orders")))) &&
  (decide (PySem.W.nsIn K mainGlobals "counts_of_ties" = some (some (.ref (He.ga K "counts_of_ties")))) &&
  (decide (PySem.W.nsIn K mainGlobals "goes_on" = some (some (.ref (He.ga K "goes_on")))) &&
  (decide (PySem.W.nsIn K mainGlobals "renamings" = some (some (.ref (He.ga K "renamings")))) &&
  (decide (PySem.W.nsIn K mainGlobals "plain_text" = some (some (.ref (He.ga K "plain_text")))) &&
  (decide (PySem.W.nsIn K mainGlobals "count_renamings" = some (some (.ref (He.ga K "count_renamings")))) &&
  (decide (PySem.W.nsIn K mainGlobals "lot_of_all" = some (some (.ref (He.ga K "lot_of_all")))) &&
  (decide (PySem.W.nsIn K mainGlobals "without" = some (some (.ref (He.ga K "without")))) &&
  (decide (PySem.W.nsIn K mainGlobals "lots_within" = some (some (.ref (He.ga K "lots_within")))) &&
  (decide (PySem.W.nsIn K mainGlobals "all_lots" = some (some (.ref (He.ga K "all_lots")))) &&
  (decide (PySem.W.nsIn K mainGlobals "rank_of" = some (some (.ref (He.ga K "rank_of")))) &&
  (decide (PySem.W.nsIn K mainGlobals "spare_of" = some (some (.ref (He.ga K "spare_of")))) &&
  (decide (PySem.W.nsIn K mainGlobals "full_rank" = some (some (.ref (He.ga K "full_rank")))) &&
  (decide (PySem.W.nsIn K mainGlobals "is_ring_lot" = some (some (.ref (He.ga K "is_ring_lot")))) &&
  (decide (PySem.W.nsIn K mainGlobals "rings" = some (some (.ref (He.ga K "rings")))) &&
  (decide (PySem.W.nsIn K mainGlobals "blocks" = some (some (.ref (He.ga K "blocks")))) &&
  (decide (PySem.W.nsIn K mainGlobals "trees_of" = some (some (.ref (He.ga K "trees_of")))) &&
  (decide (PySem.W.nsIn K mainGlobals "all_trees" = some (some (.ref (He.ga K "all_trees")))) &&
  (decide (PySem.W.nsIn K mainGlobals "rows_of_noughts" = some (some (.ref (He.ga K "rows_of_noughts")))) &&
  (decide (PySem.W.nsIn K mainGlobals "tuple_of_rows" = some (some (.ref (He.ga K "tuple_of_rows")))) &&
  (decide (PySem.W.nsIn K mainGlobals "counts_of_lots" = some (some (.ref (He.ga K "counts_of_lots")))) &&
  (decide (PySem.W.nsIn K mainGlobals "shifted" = some (some (.ref (He.ga K "shifted")))) &&
  (decide (PySem.W.nsIn K mainGlobals "across" = some (some (.ref (He.ga K "across")))) &&
  (decide (PySem.W.nsIn K mainGlobals "table_of" = some (some (.ref (He.ga K "table_of")))) &&
  (decide (PySem.W.nsIn K mainGlobals "table" = some (some (.ref (He.ga K "table")))) &&
  (decide (PySem.W.nsIn K mainGlobals "_law_cask" = some (some (.ref (He.ga K "_law_cask")))) &&
  (decide (PySem.W.nsIn K mainGlobals "_law_tap" = some (some (.ref (He.ga K "_law_tap")))) &&
  (decide (PySem.W.nsIn K mainGlobals "_law_pick" = some (some (.ref (He.ga K "_law_pick")))) &&
  (decide (PySem.W.nsIn K mainGlobals "_law_spots" = some (some (.ref (He.ga K "_law_spots")))) &&
  (decide (PySem.W.nsIn K mainGlobals "_law_joint" = some (some (.ref (He.ga K "_law_joint")))) &&
  (decide (PySem.W.nsIn K mainGlobals "_law_net" = some (some (.ref (He.ga K "_law_net")))) &&
  (decide (PySem.W.nsIn K mainGlobals "_law_page" = some (some (.ref (He.ga K "_law_page")))) &&
  (decide (PySem.W.nsIn K mainGlobals "_law_orders" = some (some (.ref (He.ga K "_law_orders")))) &&
  (decide (PySem.W.nsIn K mainGlobals "_law_by" = some (some (.ref (He.ga K "_law_by")))) &&
  (decide (PySem.W.nsIn K mainGlobals "_law_single_right" = some (some (.ref (He.ga K "_law_single_right")))) &&
  (decide (PySem.W.nsIn K mainGlobals "_law_stays" = some (some (.ref (He.ga K "_law_stays")))) &&
  (decide (PySem.W.nsIn K mainGlobals "_law_right" = some (some (.ref (He.ga K "_law_right")))) &&
  (decide (PySem.W.nsIn K mainGlobals "law" = some (some (.ref (He.ga K "law")))) &&
  (decide (PySem.W.nsIn K mainGlobals "Web" = some (some (.ref (He.ga K "Web")))) &&
  (decide (PySem.W.findIn K (.ref (He.ga K "Web")) "__init__" = some (some (.ref (He.ma K (He.ga K "Web") "__init__")))) &&
  (PySem.W.isFn K (.ref (He.ma K (He.ga K "Web") "__init__")) &&
  (PySem.W.plainGet K (He.ga K "Web") Str.empty &&
  (PySem.W.hasDictIn K (He.ga K "Web") &&
  (PySem.W.plainOver K (He.ga K "Web") &&
  (decide (PySem.W.findIn K (.ref (He.ga K "Web")) "__setattr__" = some (some (.builtin "object.__setattr__"))) &&
  (PySem.W.makesIn K (He.ga K "Web") &&
  (PySem.W.keepIn K (.ref (He.ga K "Web")) &&
  (decide (PySem.W.findIn K (.ref (He.ga K "Web")) "places" = some none) &&
  (decide (PySem.W.findIn K (.ref (He.ga K "Web")) "ties" = some none) &&
  (decide (PySem.W.findIn K (.ref (He.ga K "Web")) "__class__" = some (some (.builtin "object.__class__"))) &&
  (decide (PySem.W.specialIn K (.builtin "object.__class__") "__get__" = some (some (.builtin "getset_descriptor.__get__"))) &&
  (decide (PySem.W.takesIn K (.builtin "object.__class__") = some true) &&
  (decide (PySem.W.mroIn K (He.ga K "Web") (.type "object") = some true) &&
  (decide (PySem.W.findIn K (.ref (He.ga K "Web")) "__len__" = some (some (.ref (He.ma K (He.ga K "Web") "__len__")))) &&
  (decide (PySem.W.typeIn K (.ref (He.ma K (He.ga K "Web") "__len__")) = some (.type "function")) &&
  (decide (PySem.W.findIn K (.ref (He.ga K "Web")) "__eq__" = some (some (.ref (He.ma K (He.ga K "Web") "__eq__")))) &&
  (PySem.W.isFn K (.ref (He.ma K (He.ga K "Web") "__eq__")) &&
  (decide (PySem.W.findIn K (.ref (He.ga K "Web")) "__ne__" = some (some (.builtin "object.__ne__"))) &&
  (decide (PySem.W.findIn K (.ref (He.ga K "Web")) "text" = some (some (.ref (He.ma K (He.ga K "Web") "text")))) &&
  (PySem.W.isFn K (.ref (He.ma K (He.ga K "Web") "text")) &&
  (PySem.W.keepIn K (.ref (He.ma K (He.ga K "Web") "text")) &&
  (decide (PySem.W.nsIn K mainGlobals "comb" = some (some (.builtin "math.comb"))) &&
  (decide (PySem.W.nsIn K mainGlobals "abs" = some none) &&
  (decide (PySem.W.nsIn K mainGlobals "all" = some none) &&
  (decide (PySem.W.nsIn K mainGlobals "dict" = some none) &&
  (decide (PySem.W.nsIn K mainGlobals "divmod" = some none) &&
  (decide (PySem.W.nsIn K mainGlobals "enumerate" = some none) &&
  (decide (PySem.W.nsIn K mainGlobals "int" = some none) &&
  (decide (PySem.W.nsIn K mainGlobals "isinstance" = some none) &&
  (decide (PySem.W.nsIn K mainGlobals "len" = some none) &&
  (decide (PySem.W.nsIn K mainGlobals "list" = some none) &&
  (decide (PySem.W.nsIn K mainGlobals "max" = some none) &&
  (decide (PySem.W.nsIn K mainGlobals "min" = some none) &&
  (decide (PySem.W.nsIn K mainGlobals "range" = some none) &&
  (decide (PySem.W.nsIn K mainGlobals "sorted" = some none) &&
  (decide (PySem.W.nsIn K mainGlobals "str" = some none) &&
  (decide (PySem.W.nsIn K mainGlobals "tuple" = some none) &&
  (decide (PySem.W.nsIn K mainGlobals "zip" = some none) &&
  (intB K "MOST_PLACES" (7) &&
  (intB K "MOST_TIES" (11) &&
  (strB K "LETTERS" "abcdefgh"))))))))))))))))))))))))))))))))))))))))))))))))))))))))))))))))))))))))))))))))))))))))))))
def fnHd0 : List He.DefD := [⟨("are_letters", none), "are_letters", "are_letters", defArgs (topR 12), defBody (topR 12), defScope (topR 12), [], []⟩,
  ⟨("are_places", none), "are_places", "are_places", defArgs (topR 13), defBody (topR 13), defScope (topR 13), [], []⟩,
  ⟨("is_tie", none), "is_tie", "is_tie", defArgs (topR 14), defBody (topR 14), defScope (topR 14), [], []⟩,
  ⟨("first_wrong_tie", none), "first_wrong_tie", "first_wrong_tie", defArgs (topR 15), defBody (topR 15), defScope (topR 15), [], []⟩,
  ⟨("check_places", none), "check_places", "check_places", defArgs (topR 17), defBody (topR 17), defScope (topR 17), [], []⟩,
  ⟨("check_ties", none), "check_ties", "check_ties", defArgs (topR 18), defBody (topR 18), defScope (topR 18), [], []⟩,
  ⟨("check_letters", none), "check_letters", "check_letters", defArgs (topR 19), defBody (topR 19), defScope (topR 19), [], []⟩,
  ⟨("check_web", none), "check_web", "check_web", defArgs (topR 22), defBody (topR 22), defScope (topR 22), [], []⟩,
  ⟨("in_order", none), "in_order", "in_order", defArgs (topR 23), defBody (topR 23), defScope (topR 23), [], []⟩,
  ⟨("marks", none), "marks", "marks", defArgs (topR 24), defBody (topR 24), defScope (topR 24), [], []⟩,
  ⟨("with_letters", none), "with_letters", "with_letters", defArgs (topR 25), defBody (topR 25), defScope (topR 25), [], []⟩,
  ⟨("renamed", none), "renamed", "renamed", defArgs (topR 26), defBody (topR 26), defScope (topR 26), [], []⟩,
  ⟨("all_orders", none), "all_orders", "all_orders", defArgs (topR 28), defBody (topR 28), defScope (topR 28), [], []⟩,
  ⟨("counts_of_ties", none), "counts_of_ties", "counts_of_ties", defArgs (topR 29), defBody (topR 29), defScope (topR 29), [], []⟩,
  ⟨("goes_on", none), "goes_on", "goes_on", defArgs (topR 30), defBody (topR 30), defScope (topR 30), [], []⟩,
  ⟨("renamings", none), "renamings", "renamings", defArgs (topR 31), defBody (topR 31), defScope (topR 31), [], []⟩,
  ⟨("plain_text", none), "plain_text", "plain_text", defArgs (topR 32), defBody (topR 32), defScope (topR 32), [], []⟩,
  ⟨("count_renamings", none), "count_renamings", "count_renamings", defArgs (topR 33), defBody (topR 33), defScope (topR 33), [], []⟩,
  ⟨("lot_of_all", none), "lot_of_all", "lot_of_all", defArgs (topR 35), defBody (topR 35), defScope (topR 35), [], []⟩,
  ⟨("without", none), "without", "without", defArgs (topR 36), defBody (topR 36), defScope (topR 36), [], []⟩]
def fnHd1 : List He.DefD := [⟨("lots_within", none), "lots_within", "lots_within", defArgs (topR 37), defBody (topR 37), defScope (topR 37), [], []⟩,
  ⟨("all_lots", none), "all_lots", "all_lots", defArgs (topR 38), defBody (topR 38), defScope (topR 38), [], []⟩,
  ⟨("rank_of", none), "rank_of", "rank_of", defArgs (topR 39), defBody (topR 39), defScope (topR 39), [], []⟩,
  ⟨("spare_of", none), "spare_of", "spare_of", defArgs (topR 40), defBody (topR 40), defScope (topR 40), [], []⟩,
  ⟨("full_rank", none), "full_rank", "full_rank", defArgs (topR 41), defBody (topR 41), defScope (topR 41), [], []⟩,
  ⟨("is_ring_lot", none), "is_ring_lot", "is_ring_lot", defArgs (topR 42), defBody (topR 42), defScope (topR 42), [], []⟩,
  ⟨("rings", none), "rings", "rings", defArgs (topR 43), defBody (topR 43), defScope (topR 43), [], []⟩,
  ⟨("blocks", none), "blocks", "blocks", defArgs (topR 44), defBody (topR 44), defScope (topR 44), [], []⟩,
  ⟨("trees_of", none), "trees_of", "trees_of", defArgs (topR 46), defBody (topR 46), defScope (topR 46), [], []⟩,
  ⟨("all_trees", none), "all_trees", "all_trees", defArgs (topR 47), defBody (topR 47), defScope (topR 47), [], []⟩,
  ⟨("rows_of_noughts", none), "rows_of_noughts", "rows_of_noughts", defArgs (topR 49), defBody (topR 49), defScope (topR 49), [], []⟩,
  ⟨("tuple_of_rows", none), "tuple_of_rows", "tuple_of_rows", defArgs (topR 50), defBody (topR 50), defScope (topR 50), [], []⟩,
  ⟨("counts_of_lots", none), "counts_of_lots", "counts_of_lots", defArgs (topR 51), defBody (topR 51), defScope (topR 51), [], []⟩,
  ⟨("shifted", none), "shifted", "shifted", defArgs (topR 52), defBody (topR 52), defScope (topR 52), [], []⟩,
  ⟨("across", none), "across", "across", defArgs (topR 53), defBody (topR 53), defScope (topR 53), [], []⟩,
  ⟨("table_of", none), "table_of", "table_of", defArgs (topR 54), defBody (topR 54), defScope (topR 54), [], []⟩,
  ⟨("table", none), "table", "table", defArgs (topR 55), defBody (topR 55), defScope (topR 55), [], []⟩,
  ⟨("_law_cask", none), "_law_cask", "_law_cask", defArgs (topR 57), defBody (topR 57), defScope (topR 57), [], []⟩,
  ⟨("_law_tap", none), "_law_tap", "_law_tap", defArgs (topR 58), defBody (topR 58), defScope (topR 58), [], []⟩,
  ⟨("_law_pick", none), "_law_pick", "_law_pick", defArgs (topR 59), defBody (topR 59), defScope (topR 59), [], []⟩]
def fnHd2 : List He.DefD := [⟨("_law_spots", none), "_law_spots", "_law_spots", defArgs (topR 60), defBody (topR 60), defScope (topR 60), [], []⟩,
  ⟨("_law_joint", none), "_law_joint", "_law_joint", defArgs (topR 61), defBody (topR 61), defScope (topR 61), [], []⟩,
  ⟨("_law_net", none), "_law_net", "_law_net", defArgs (topR 62), defBody (topR 62), defScope (topR 62), [], []⟩,
  ⟨("_law_page", none), "_law_page", "_law_page", defArgs (topR 63), defBody (topR 63), defScope (topR 63), [], []⟩,
  ⟨("_law_orders", none), "_law_orders", "_law_orders", defArgs (topR 64), defBody (topR 64), defScope (topR 64), [], []⟩,
  ⟨("_law_by", none), "_law_by", "_law_by", defArgs (topR 65), defBody (topR 65), defScope (topR 65), [], []⟩,
  ⟨("_law_single_right", none), "_law_single_right", "_law_single_right", defArgs (topR 66), defBody (topR 66), defScope (topR 66), [], []⟩,
  ⟨("_law_stays", none), "_law_stays", "_law_stays", defArgs (topR 67), defBody (topR 67), defScope (topR 67), [], []⟩,
  ⟨("_law_right", none), "_law_right", "_law_right", defArgs (topR 68), defBody (topR 68), defScope (topR 68), [], []⟩,
  ⟨("law", none), "law", "law", defArgs (topR 69), defBody (topR 69), defScope (topR 69), [], []⟩,
  ⟨("Web", some "__init__"), "__init__", "Web.__init__", defArgs (inClass (topR 21) 0), defBody (inClass (topR 21) 0), defScope (inClass (topR 21) 0), [], []⟩,
  ⟨("Web", some "__len__"), "__len__", "Web.__len__", defArgs (inClass (topR 21) 4), defBody (inClass (topR 21) 4), defScope (inClass (topR 21) 4), [], []⟩,
  ⟨("Web", some "__eq__"), "__eq__", "Web.__eq__", defArgs (inClass (topR 21) 5), defBody (inClass (topR 21) 5), defScope (inClass (topR 21) 5), [], []⟩,
  ⟨("Web", some "text"), "text", "Web.text", defArgs (inClass (topR 21) 2), defBody (inClass (topR 21) 2), defScope (inClass (topR 21) 2), [], []⟩]
def fnHd : List He.DefD := fnHd0 ++ fnHd1 ++ fnHd2
abbrev rowHd : PySem.W.OpenRow := PySem.W.OpenLaw.row PySem.Challenge.rw_webreckon_k06_whole_webs_renamed
def keptHd0 : List Str := ["are_letters", "are_places", "is_tie", "first_wrong_tie", "check_places", "check_ties", "check_letters", "check_web", "in_order", "marks", "with_letters", "renamed", "all_orders", "counts_of_ties", "goes_on", "renamings", "plain_text", "count_renamings", "lot_of_all", "without", "lots_within", "all_lots", "rank_of", "spare_of", "full_rank", "is_ring_lot", "rings", "blocks", "trees_of", "all_trees"]
def keptHd1 : List Str := ["rows_of_noughts", "tuple_of_rows", "counts_of_lots", "shifted", "across", "table_of", "table", "_law_cask", "_law_tap", "_law_pick", "_law_spots", "_law_joint", "_law_net", "_law_page", "_law_orders", "_law_by", "_law_single_right", "_law_stays", "_law_right", "law"]
def keptHd : List Str := keptHd0 ++ keptHd1
/-- what an object points to -/
def outHd (g : Addr → Option Obj) (a : Addr) : List Addr := match g a with
  | some ob => He.refsO ob
  | none => []
/-- the objects that are looked at: the globals, the defs with what they point to, the class with its defs -/
def wayHd (g : Addr → Option Obj) : List Addr := (fun G => mainGlobals :: ((keptHd.flatMap fun x => (fun a => a :: outHd g a) (He.ga G x)) ++ (fun c => c :: ((outHd g c).flatMap fun b => b :: ((outHd g b).flatMap fun d => d :: outHd g d))) (He.ga G "Web"))) (He.frG g [mainGlobals])
def lookHd (K : PySem.W.Frag) : He.AlD × Bool := (He.obsD [] fnHd K, exHd K)
def valHd (w : World) : He.AlD × Bool := (He.valD fnHd, true)
def hookHd : PySem.W.Hook where
  α := He.AlD × Bool
  obs := fun st => lookHd (He.frG st.heap.get? (wayHd st.heap.get?))
  val := fun w => valHd w
  says := fun w hp => ∃ Q : PySem.W.Frag, Q.In hp ∧ lookHd Q = valHd w
  of := fun _ _ eq => ⟨_, He.frG_in, eq⟩
  keeps := fun _ _ _ hq kp => hq.elim fun Q z => ⟨Q, PySem.W.Frag.In.keeps z.1 kp, z.2⟩
def obHd (st : PySem.W.SharedT) : He.AlD × Bool := lookHd (He.frG (HandSHeadRun.getT st) (wayHd (HandSHeadRun.getT st)))
theorem obHd_eq (st : PySem.W.SharedT) : obHd st = hookHd.obs st.abs := by
  have eq : HandSHeadRun.getT st = st.abs.heap.get? := funext (HandSHeadRun.getT_eq st)
  unfold obHd
  rw [eq]
  rfl
def looseHd0 : List Str := ["__name__", "ShapeError", "InvalidPlaces", "InvalidTies", "InvalidText", "InvalidLetters", "NotAWeb", "MOST_PLACES", "MOST_TIES", "LETTERS", "are_letters", "are_places", "is_tie", "first_wrong_tie", "is_text", "check_places", "check_ties", "check_letters", "Web", "check_web", "in_order", "marks", "with_letters", "renamed", "all_orders", "counts_of_ties", "goes_on", "renamings", "plain_text", "count_renamings"]
def looseHd1 : List Str := ["lot_of_all", "without", "lots_within", "all_lots", "rank_of", "spare_of", "full_rank", "is_ring_lot", "rings", "blocks", "trees_of", "all_trees", "rows_of_noughts", "tuple_of_rows", "counts_of_lots", "shifted", "across", "table_of", "table", "_law_cask", "_law_tap", "_law_pick", "_law_spots", "_law_joint", "_law_net", "_law_page", "_law_orders", "_law_by", "_law_single_right", "_law_stays"]
def looseHd2 : List Str := ["_law_right"]
def looseHd : List Str := looseHd0 ++ looseHd1 ++ looseHd2
theorem runHd (w : World) : HandSHeadRun.RunEqI rowHd (PySem.W.view rowHd.prog [0, 69]) hookHd obHd 9000 looseHd w := by
  unfold HandSHeadRun.RunEqI
  kernel_rfl
end K10
set_option Elab.async false
set_option linter.all false
set_option maxRecDepth 100000
/-! A data layer over the hand layer: values as deep data, a small store for what is mutable; readings without addresses of what never changes. -/
namespace DL
open PySem PySem.Spec PyProof.Rows L2
/-! ### data -/
inductive D where
  | non | bl (b : Bool) | int (i : Int) | str (x : Str) | tup (ds : List D) | lst (ds : List D) | seq (ds : List D)
  | ins (C : Addr) (fs : List (Str × D)) | adr (a : Addr)
/-- what is mutable -/
inductive MO where
  | lst (ds : List D) | dct (kvs : List (Key × D)) | dtt (kvs : List (List Key × D)) | ins (C : Addr) (fs : List (Str × D))
  /-- a dict that is walked -/
  | lck (kvs : List (List Key × D))
  /-- a tuple that was just made, its object known -/
  | ftp (ds : List D)
abbrev Mu := Addr → Option MO
def put (μ : Mu) (a : Addr) (o : MO) : Mu := fun b => if b = a then some o else μ b
def del (μ : Mu) (a : Addr) : Mu := fun b => if b = a then none else μ b
theorem put_same {μ : Mu} {a : Addr} {o : MO} : put μ a o a = some o := by unfold put; rw [if_pos rfl]
theorem put_ne {μ : Mu} {a b : Addr} {o : MO} (h : b ≠ a) : put μ a o b = μ b := by unfold put; rw [if_neg h]
theorem del_same {μ : Mu} {a : Addr} : del μ a a = none := by unfold del; rw [if_pos rfl]
theorem del_ne {μ : Mu} {a b : Addr} (h : b ≠ a) : del μ a b = μ b := by unfold del; rw [if_neg h]
theorem put_put {μ : Mu} {a : Addr} {o u : MO} : put (put μ a o) a u = put μ a u := by
  funext b; unfold put; split <;> rfl
theorem del_put {μ : Mu} {a : Addr} {o : MO} (h : μ a = none) : del (put μ a o) a = μ := by
  funext b; unfold del put; split
  · rename_i e; rw [e, h]
  · rfl
theorem put_comm {μ : Mu} {a b : Addr} {o u : MO} (h : a ≠ b) : put (put μ a o) b u = put (put μ b u) a o := by
  funext c; unfold put
  by_cases h1 : c = b
  · rw [if_pos h1, if_neg (fun e => h (e.symm.trans h1)), if_pos h1]
  · rw [if_neg h1, if_neg h1]
/-! ### what stands for what -/
section
variable (K : PySem.W.Frag) (H : Hp) (μ : Mu)
/-- a tuple, a list that nobody changes -/
def ImT (a : Addr) (vs : List V) : Prop := (H a = some (.tup vs) ∧ μ a = none) ∨ (∀ H' : Hp, SqT K H' a vs) ∧ False
def ImQ (a : Addr) (vs : List V) : Prop := (Rd H a (.lst vs) ∧ μ a = none) ∨ ∀ H' : Hp, SqL K H' a vs
mutual
def Rep : D → V → Prop
  | .non, v => v = .non
  | .bl b, v => v = .bl b
  | .int i, v => v = .int i
  | .str x, v => v = .str x
  | .tup ds, v => ∃ a vs, v = .ref a ∧ ImT K H μ a vs ∧ RepL ds vs
  | .lst ds, v => ∃ a vs, v = .ref a ∧ H a = some (.lst vs) ∧ μ a = none ∧ RepL ds vs
  | .seq ds, v => ∃ a vs, v = .ref a ∧ ImQ K H μ a vs ∧ RepL ds vs
  | .ins C fs, v => ∃ a dx fv, v = .ref a ∧ H a = some (.ins C dx fv) ∧ μ a = none ∧ RepF fs fv
  | .adr a, v => v = .ref a
def RepL : List D → List V → Prop
  | [], vs => vs = []
  | d :: ds, vs => ∃ v r, vs = v :: r ∧ Rep d v ∧ RepL ds r
def RepF : List (Str × D) → List (Str × V) → Prop
  | [], fv => fv = []
  | (x, d) :: fs, fv => ∃ v r, fv = (x, v) :: r ∧ Rep d v ∧ RepF fs r
end
def RepK {κ : Type} : List (κ × D) → List (κ × V) → Prop
  | [], kv => kv = []
  | (k, d) :: r, kv => ∃ v s, kv = (k, v) :: s ∧ Rep K H μ d v ∧ RepK r s
def RepO : MO → Addr → Prop
  | .lst ds, a => ∃ vs, H a = some (.lst vs) ∧ RepL K H μ ds vs
  | .dct kvs, a => ∃ kv, H a = some (.dK kv) ∧ RepK K H μ kvs kv
  | .dtt kvs, a => ∃ kv, H a = some (.dT kv) ∧ RepK K H μ kvs kv
  | .lck kvs, a => ∃ o kv, H a = some (.frz o (.dT kv)) ∧ RepK K H μ kvs kv
  | .ftp ds, a => ∃ o vs, H a = some (.frz o (.tup vs)) ∧ o.dict = none ∧ RepL K H μ ds vs
  | .ins C fs, a => ∃ dx fv, H a = some (.ins C dx fv) ∧ RepF K H μ fs fv
/-- the store is there -/
def RM : Prop := ∀ a o, μ a = some o → RepO K H μ o a
end
abbrev DS := List (Option D)
def RepS (K : PySem.W.Frag) (H : Hp) (μ : Mu) : DS → L2.St → Prop
  | [], σ => σ = []
  | none :: δ, σ => ∃ o r, σ = o :: r ∧ RepS K H μ δ r
  | some d :: δ, σ => ∃ v r, σ = some v :: r ∧ Rep K H μ d v ∧ RepS K H μ δ r
/-- what was tracked and not in the store stays; the store only takes what was there, or new -/
structure Kp (H : Hp) (μ : Mu) (H' : Hp) (μ' : Mu) : Prop where
  k1 : ∀ b o, H b = some o → μ b = none → H' b = some o
  k2 : ∀ b, μ' b ≠ none → μ b ≠ none ∨ H b = none
theorem Kp.refl (H : Hp) (μ : Mu) : Kp H μ H μ := ⟨fun _ _ h _ => h, fun _ h => .inl h⟩
theorem Kp.free {H H' : Hp} {μ μ' : Mu} (k : Kp H μ H' μ') {b : Addr} {o : HO} (h : H b = some o) (n : μ b = none) : μ' b = none := by
  cases q : μ' b with
  | none => rfl
  | some u =>
    rcases k.k2 b (by rw [q]; simp) with z | z
    · exact absurd n z
    · rw [h] at z; cases z
theorem Kp.trans {H H1 H2 : Hp} {μ μ1 μ2 : Mu} (a : Kp H μ H1 μ1) (b : Kp H1 μ1 H2 μ2) : Kp H μ H2 μ2 := by
  refine ⟨fun c o h n => b.k1 c o (a.k1 c o h n) (a.free h n), fun c h => ?_⟩
  rcases b.k2 c h with z | z
  · exact a.k2 c z
  · cases q : H c with
    | none => exact .inr rfl
    | some o =>
      left
      intro n
      have := a.k1 c o q n
      rw [z] at this; cases this
/-- something new, not in the store -/
theorem Kp.new {H : Hp} {μ : Mu} {p : Addr} {o : HO} (n : H p = none) : Kp H μ (upd H p o) μ :=
  ⟨fun b u e _ => by rw [upd_ne (ne_of_none e n)]; exact e, fun _ h => .inl h⟩
/-- something new, in the store -/
theorem Kp.cell {H : Hp} {μ : Mu} {p : Addr} {o : HO} {m : MO} (n : H p = none) : Kp H μ (upd H p o) (put μ p m) := by
  refine ⟨fun b u e _ => by rw [upd_ne (ne_of_none e n)]; exact e, fun b h => ?_⟩
  by_cases e : b = p
  · right; rw [e]; exact n
  · left; rw [put_ne e] at h; exact h
/-- what is in the store changes -/
theorem Kp.write {H : Hp} {μ : Mu} {p : Addr} {o : HO} {m u : MO} (n : μ p = some u) : Kp H μ (upd H p o) (put μ p m) := by
  refine ⟨fun b w e z => ?_, fun b h => ?_⟩
  · have : b ≠ p := by rintro rfl; rw [n] at z; cases z
    rw [upd_ne this]; exact e
  · by_cases e : b = p
    · left; rw [e, n]; simp
    · left; rw [put_ne e] at h; exact h
theorem Kp.drop {H : Hp} {μ : Mu} {p : Addr} : Kp H μ H (del μ p) := by
  refine ⟨fun b o e _ => e, fun b h => ?_⟩
  by_cases e : b = p
  · rw [e, del_same] at h; exact absurd rfl h
  · left; rw [del_ne e] at h; exact h
section
variable {K : PySem.W.Frag} {H H' : Hp} {μ μ' : Mu}
theorem ImT.mono {a : Addr} {vs : List V} (k : Kp H μ H' μ') (h : ImT K H μ a vs) : ImT K H' μ' a vs := by
  rcases h with ⟨h, n⟩ | h
  · exact .inl ⟨k.k1 _ _ h n, k.free h n⟩
  · exact .inr h
theorem ImQ.mono {a : Addr} {vs : List V} (k : Kp H μ H' μ') (h : ImQ K H μ a vs) : ImQ K H' μ' a vs := by
  rcases h with ⟨h, n⟩ | h
  · rcases h with h | ⟨o, h⟩
    · exact .inl ⟨.inl (k.k1 _ _ h n), k.free h n⟩
    · exact .inl ⟨.inr ⟨o, k.k1 _ _ h n⟩, k.free h n⟩
  · exact .inr h
theorem ImT.sq {a : Addr} {vs : List V} (h : ImT K H μ a vs) : SqT K H a vs := h.elim (fun h => .inl (.inl h.1)) fun h => h.2.elim
theorem ImT.at_ {a : Addr} {vs : List V} (h : ImT K H μ a vs) : H a = some (.tup vs) ∧ μ a = none := h.elim id fun h => h.2.elim
theorem ImQ.sq {a : Addr} {vs : List V} (h : ImQ K H μ a vs) : SqL K H a vs := h.elim (fun h => .inl h.1) fun h => h H
mutual
theorem Rep.mono (k : Kp H μ H' μ') : ∀ (d : D) (v : V), Rep K H μ d v → Rep K H' μ' d v
  | .non, _, h => by unfold Rep at h ⊢; exact h
  | .bl _, _, h => by unfold Rep at h ⊢; exact h
  | .int _, _, h => by unfold Rep at h ⊢; exact h
  | .str _, _, h => by unfold Rep at h ⊢; exact h
  | .tup ds, _, h => by
    unfold Rep at h ⊢
    obtain ⟨a, vs, e, i, r⟩ := h
    exact ⟨a, vs, e, i.mono k, RepL.mono k ds vs r⟩
  | .lst ds, _, h => by
    unfold Rep at h ⊢
    obtain ⟨a, vs, e, i, n, r⟩ := h
    exact ⟨a, vs, e, k.k1 _ _ i n, k.free i n, RepL.mono k ds vs r⟩
  | .seq ds, _, h => by
    unfold Rep at h ⊢
    obtain ⟨a, vs, e, i, r⟩ := h
    exact ⟨a, vs, e, i.mono k, RepL.mono k ds vs r⟩
  | .ins C fs, _, h => by
    unfold Rep at h ⊢
    obtain ⟨a, dx, fv, e, i, n, r⟩ := h
    exact ⟨a, dx, fv, e, k.k1 _ _ i n, k.free i n, RepF.mono k fs fv r⟩
  | .adr _, _, h => by unfold Rep at h ⊢; exact h
theorem RepL.mono (k : Kp H μ H' μ') : ∀ (ds : List D) (vs : List V), RepL K H μ ds vs → RepL K H' μ' ds vs
  | [], _, h => by unfold RepL at h ⊢; exact h
  | d :: ds, _, h => by
    unfold RepL at h ⊢
    obtain ⟨v, r, e, h1, h2⟩ := h
    exact ⟨v, r, e, Rep.mono k d v h1, RepL.mono k ds r h2⟩
theorem RepF.mono (k : Kp H μ H' μ') : ∀ (fs : List (Str × D)) (fv : List (Str × V)), RepF K H μ fs fv → RepF K H' μ' fs fv
  | [], _, h => by unfold RepF at h ⊢; exact h
  | (x, d) :: fs, _, h => by
    unfold RepF at h ⊢
    obtain ⟨v, r, e, h1, h2⟩ := h
    exact ⟨v, r, e, Rep.mono k d v h1, RepF.mono k fs r h2⟩
end
theorem RepK.mono {κ : Type} (k : Kp H μ H' μ') : ∀ (fs : List (κ × D)) (fv : List (κ × V)), RepK K H μ fs fv → RepK K H' μ' fs fv
  | [], _, h => by unfold RepK at h ⊢; exact h
  | (x, d) :: fs, _, h => by
    unfold RepK at h ⊢
    obtain ⟨v, r, e, h1, h2⟩ := h
    exact ⟨v, r, e, Rep.mono k d v h1, RepK.mono k fs r h2⟩
theorem RepS.mono (k : Kp H μ H' μ') : ∀ (δ : DS) (σ : L2.St), RepS K H μ δ σ → RepS K H' μ' δ σ
  | [], _, h => by unfold RepS at h ⊢; exact h
  | none :: δ, _, h => by
    unfold RepS at h ⊢
    obtain ⟨o, r, e, h2⟩ := h
    exact ⟨o, r, e, RepS.mono k δ r h2⟩
  | some d :: δ, _, h => by
    unfold RepS at h ⊢
    obtain ⟨v, r, e, h1, h2⟩ := h
    exact ⟨v, r, e, h1.mono k, RepS.mono k δ r h2⟩
end
section
variable {K : PySem.W.Frag} {H H' : Hp} {μ μ' : Mu}
theorem RepL.length : ∀ {ds : List D} {vs : List V}, RepL K H μ ds vs → vs.length = ds.length
  | [], _, h => by
    unfold RepL at h
    rw [h] <;> rfl
  | d :: ds, _, h => by
    unfold RepL at h
    obtain ⟨v, r, rfl, _, h2⟩ := h
    show r.length + 1 = ds.length + 1
    rw [RepL.length h2]
theorem RepL.at_ : ∀ {ds : List D} {vs : List V} {i : Nat} {d : D}, RepL K H μ ds vs → ds[i]? = some d → ∃ v, vs[i]? = some v ∧ Rep K H μ d v
  | [], _, _, _, h, e => by simp at e
  | d :: ds, _, 0, x, h, e => by
    unfold RepL at h
    obtain ⟨v, r, rfl, h1, _⟩ := h
    have e' : d = x := by simpa using e
    subst e'
    exact ⟨v, rfl, h1⟩
  | d :: ds, _, i + 1, x, h, e => by
    unfold RepL at h
    obtain ⟨v, r, rfl, _, h2⟩ := h
    obtain ⟨u, e1, h3⟩ := RepL.at_ (i := i) h2 (by simpa using e)
    exact ⟨u, by simpa using e1, h3⟩
theorem RepL.atV : ∀ {ds : List D} {vs : List V} {i : Nat} {v : V}, RepL K H μ ds vs → vs[i]? = some v → ∃ d, ds[i]? = some d ∧ Rep K H μ d v
  | [], _, _, _, h, e => by
    unfold RepL at h
    rw [h] at e
    simp at e
  | d :: ds, _, 0, x, h, e => by
    unfold RepL at h
    obtain ⟨v, r, rfl, h1, _⟩ := h
    have e' : v = x := by simpa using e
    subst e'
    exact ⟨d, rfl, h1⟩
  | d :: ds, _, i + 1, x, h, e => by
    unfold RepL at h
    obtain ⟨v, r, rfl, _, h2⟩ := h
    obtain ⟨u, e1, h3⟩ := RepL.atV (i := i) h2 (by simpa using e)
    exact ⟨u, by simpa using e1, h3⟩
theorem RepL.nil : RepL K H μ [] [] := by unfold RepL; rfl
theorem RepL.cons {d : D} {v : V} {ds : List D} {vs : List V} (h : Rep K H μ d v) (h2 : RepL K H μ ds vs) : RepL K H μ (d :: ds) (v :: vs) := by
  unfold RepL; exact ⟨v, vs, rfl, h, h2⟩
theorem RepL.append : ∀ {ds es : List D} {vs us : List V}, RepL K H μ ds vs → RepL K H μ es us → RepL K H μ (ds ++ es) (vs ++ us)
  | [], _, _, _, h, h' => by
    unfold RepL at h
    rw [h]
    exact h'
  | d :: ds, _, _, _, h, h' => by
    unfold RepL at h
    obtain ⟨v, r, rfl, h1, h2⟩ := h
    exact RepL.cons h1 (RepL.append h2 h')
theorem RepL.take : ∀ {ds : List D} {vs : List V} (n : Nat), RepL K H μ ds vs → RepL K H μ (ds.take n) (vs.take n)
  | _, _, 0, _ => by simpa using RepL.nil
  | [], _, n + 1, h => by
    unfold RepL at h
    rw [h]
    simpa using RepL.nil
  | d :: ds, _, n + 1, h => by
    unfold RepL at h
    obtain ⟨v, r, rfl, h1, h2⟩ := h
    simpa using RepL.cons h1 (RepL.take n h2)
theorem RepL.drop : ∀ {ds : List D} {vs : List V} (n : Nat), RepL K H μ ds vs → RepL K H μ (ds.drop n) (vs.drop n)
  | _, _, 0, h => by simpa using h
  | [], _, n + 1, h => by
    unfold RepL at h
    rw [h]
    simpa using RepL.nil
  | d :: ds, _, n + 1, h => by
    unfold RepL at h
    obtain ⟨v, r, rfl, h1, h2⟩ := h
    simpa using RepL.drop n h2
theorem RepL.set : ∀ {ds : List D} {vs : List V} {d : D} {v : V} (i : Nat), RepL K H μ ds vs → Rep K H μ d v → RepL K H μ (ds.set i d) (vs.set i v)
  | [], _, _, _, _, h, _ => by
    unfold RepL at h
    rw [h]
    simpa using RepL.nil
  | e :: ds, _, d, v, 0, h, h' => by
    unfold RepL at h
    obtain ⟨u, r, rfl, h1, h2⟩ := h
    simpa using RepL.cons h' h2
  | e :: ds, _, d, v, i + 1, h, h' => by
    unfold RepL at h
    obtain ⟨u, r, rfl, h1, h2⟩ := h
    simpa using RepL.cons h1 (RepL.set i h2 h')
theorem RepL.erase : ∀ {ds : List D} {vs : List V} (i : Nat), RepL K H μ ds vs → RepL K H μ (ds.eraseIdx i) (vs.eraseIdx i)
  | [], _, _, h => by
    unfold RepL at h
    rw [h]
    simpa using RepL.nil
  | e :: ds, _, 0, h => by
    unfold RepL at h
    obtain ⟨u, r, rfl, h1, h2⟩ := h
    simpa using h2
  | e :: ds, _, i + 1, h => by
    unfold RepL at h
    obtain ⟨u, r, rfl, h1, h2⟩ := h
    simpa using RepL.cons h1 (RepL.erase i h2)
theorem RepL.ints : ∀ {ns : List Int} {vs : List V}, RepL K H μ (ns.map D.int) vs → vs = ns.map V.int
  | [], _, h => by unfold RepL at h; exact h
  | n :: ns, _, h => by
    unfold RepL at h
    obtain ⟨v, r, rfl, h1, h2⟩ := h
    unfold Rep at h1
    rw [h1, RepL.ints h2]
    rfl
theorem RepL.bools : ∀ {ns : List Bool} {vs : List V}, RepL K H μ (ns.map D.bl) vs → vs = ns.map V.bl
  | [], _, h => by unfold RepL at h; exact h
  | n :: ns, _, h => by
    unfold RepL at h
    obtain ⟨v, r, rfl, h1, h2⟩ := h
    unfold Rep at h1
    rw [h1, RepL.bools h2]
    rfl
theorem RepL.strs : ∀ {ns : List Str} {vs : List V}, RepL K H μ (ns.map D.str) vs → vs = ns.map V.str
  | [], _, h => by unfold RepL at h; exact h
  | n :: ns, _, h => by
    unfold RepL at h
    obtain ⟨v, r, rfl, h1, h2⟩ := h
    unfold Rep at h1
    rw [h1, RepL.strs h2]
    rfl
theorem RepL.of_ints : ∀ (ns : List Int), RepL K H μ (ns.map D.int) (ns.map V.int)
  | [] => RepL.nil
  | n :: ns => RepL.cons (by unfold Rep; rfl) (RepL.of_ints ns)
theorem RepL.of_strs : ∀ (ns : List Str), RepL K H μ (ns.map D.str) (ns.map V.str)
  | [] => RepL.nil
  | n :: ns => RepL.cons (by unfold Rep; rfl) (RepL.of_strs ns)
/-! ### slots -/
theorem RepS.get : ∀ {δ : DS} {σ : L2.St} {i : Nat} {d : D}, RepS K H μ δ σ → δ[i]? = some (some d) → ∃ v, σ[i]? = some (some v) ∧ Rep K H μ d v
  | [], _, _, _, h, e => by simp at e
  | none :: δ, _, 0, x, h, e => by simp at e
  | some y :: δ, _, 0, x, h, e => by
    unfold RepS at h
    obtain ⟨v, r, rfl, h1, _⟩ := h
    have e' : y = x := by simpa using e
    subst e'
    exact ⟨v, rfl, h1⟩
  | none :: δ, _, i + 1, x, h, e => by
    unfold RepS at h
    obtain ⟨v, r, rfl, h2⟩ := h
    obtain ⟨u, e1, h3⟩ := RepS.get (i := i) h2 (by simpa using e)
    exact ⟨u, by simpa using e1, h3⟩
  | some y :: δ, _, i + 1, x, h, e => by
    unfold RepS at h
    obtain ⟨v, r, rfl, _, h2⟩ := h
    obtain ⟨u, e1, h3⟩ := RepS.get (i := i) h2 (by simpa using e)
    exact ⟨u, by simpa using e1, h3⟩
theorem RepS.set : ∀ {δ : DS} {σ : L2.St} {d : D} {v : V} (i : Nat), RepS K H μ δ σ → Rep K H μ d v → RepS K H μ (δ.set i (some d)) (σ.set i (some v))
  | [], _, _, _, _, h, _ => by
    unfold RepS at h
    rw [h]
    simp [RepS]
  | none :: δ, _, d, v, 0, h, h' => by
    unfold RepS at h
    obtain ⟨o, r, rfl, h2⟩ := h
    show RepS K H μ (some d :: δ) (some v :: r)
    unfold RepS
    exact ⟨v, r, rfl, h', h2⟩
  | some y :: δ, _, d, v, 0, h, h' => by
    unfold RepS at h
    obtain ⟨o, r, rfl, _, h2⟩ := h
    show RepS K H μ (some d :: δ) (some v :: r)
    unfold RepS
    exact ⟨v, r, rfl, h', h2⟩
  | none :: δ, _, d, v, i + 1, h, h' => by
    unfold RepS at h
    obtain ⟨o, r, rfl, h2⟩ := h
    show RepS K H μ (none :: δ.set i (some d)) (o :: r.set i (some v))
    unfold RepS
    exact ⟨o, _, rfl, RepS.set i h2 h'⟩
  | some y :: δ, _, d, v, i + 1, h, h' => by
    unfold RepS at h
    obtain ⟨o, r, rfl, h1, h2⟩ := h
    show RepS K H μ (some y :: δ.set i (some d)) (some o :: r.set i (some v))
    unfold RepS
    exact ⟨o, _, rfl, h1, RepS.set i h2 h'⟩
theorem RepS.unset : ∀ {δ : DS} {σ : L2.St} (i : Nat), RepS K H μ δ σ → RepS K H μ (δ.set i none) (σ.set i none)
  | [], _, _, h => by
    unfold RepS at h
    rw [h]
    simp [RepS]
  | none :: δ, _, 0, h => by
    unfold RepS at h
    obtain ⟨o, r, rfl, h2⟩ := h
    show RepS K H μ (none :: δ) (none :: r)
    unfold RepS
    exact ⟨none, r, rfl, h2⟩
  | some y :: δ, _, 0, h => by
    unfold RepS at h
    obtain ⟨o, r, rfl, _, h2⟩ := h
    show RepS K H μ (none :: δ) (none :: r)
    unfold RepS
    exact ⟨none, r, rfl, h2⟩
  | none :: δ, _, i + 1, h => by
    unfold RepS at h
    obtain ⟨o, r, rfl, h2⟩ := h
    show RepS K H μ (none :: δ.set i none) (o :: r.set i none)
    unfold RepS
    exact ⟨o, _, rfl, RepS.unset i h2⟩
  | some y :: δ, _, i + 1, h => by
    unfold RepS at h
    obtain ⟨o, r, rfl, h1, h2⟩ := h
    show RepS K H μ (some y :: δ.set i none) (some o :: r.set i none)
    unfold RepS
    exact ⟨o, _, rfl, h1, RepS.unset i h2⟩
/-- the slots of a block's own names forgotten -/
def wiped (δ : DS) : List Nat → DS
  | [] => δ
  | v :: vs => (wiped δ vs).set v none
theorem RepS.wipe {δ : DS} {σ : L2.St} (h : RepS K H μ δ σ) : ∀ vs : List Nat, RepS K H μ (wiped δ vs) (L2.wipe σ vs)
  | [] => h
  | v :: vs => (RepS.wipe h vs).unset v
/-- a def's slots at its start -/
def begin_ (N : List Str) (ds : List D) : DS := ds.map some ++ List.replicate (N.length - ds.length) none
end
end DL
set_option Elab.async false
set_option linter.all false
set_option maxRecDepth 100000
namespace DL
open PySem PySem.Spec PyProof.Rows L2
/-! ### readings over data -/
abbrev KD := D → Mu → Prop
abbrev GE := DS → Mu → KD → Prop
abbrev GT := DS → Mu → (Bool → Mu → Prop) → Prop
abbrev GA := DS → Mu → (List D → Mu → Prop) → Prop
structure DEnds where
  nx : DS → Mu → Prop
  rt : KD
  bk : DS → Mu → Prop := fun _ _ => False
  ct : DS → Mu → Prop := fun _ _ => False
abbrev GS := DEnds → DS → Mu → Prop
/-- what must be shown of a value's continuation -/
def Fw (K : PySem.W.Frag) (H : Hp) (μ : Mu) (R : KD) (Q : VK) : Prop := ∀ v d H' μ', Kp H μ H' μ' → RM K H' μ' → Rep K H' μ' d v → R d μ' → Q v H'
theorem Fw.re {K : PySem.W.Frag} {H H1 : Hp} {μ μ1 : Mu} {R : KD} {Q : VK} (k : Kp H μ H1 μ1) (f : Fw K H μ R Q) : Fw K H1 μ1 R Q := fun v d H' μ' k' => f v d H' μ' (k.trans k')
def SimE (K : PySem.W.Frag) (t : TE) (g : GE) : Prop := ∀ σ H δ μ (Q : VK) (R : KD), RM K H μ → RepS K H μ δ σ → g δ μ R → Fw K H μ R Q → t σ H Q
def SimT (K : PySem.W.Frag) (t : TT) (g : GT) : Prop := ∀ σ H δ μ (Q : Bool → Hp → Prop) (R : Bool → Mu → Prop), RM K H μ → RepS K H μ δ σ → g δ μ R →
  (∀ b H' μ', Kp H μ H' μ' → RM K H' μ' → R b μ' → Q b H') → t σ H Q
def SimA (K : PySem.W.Frag) (t : TA) (g : GA) : Prop := ∀ σ H δ μ (Q : List V → Hp → Prop) (R : List D → Mu → Prop), RM K H μ → RepS K H μ δ σ → g δ μ R →
  (∀ vs ds H' μ', Kp H μ H' μ' → RM K H' μ' → RepL K H' μ' ds vs → R ds μ' → Q vs H') → t σ H Q
structure EOk (K : PySem.W.Frag) (H0 : Hp) (μ0 : Mu) (E : Ends) (F : DEnds) : Prop where
  nx : ∀ σ H δ μ, Kp H0 μ0 H μ → RM K H μ → RepS K H μ δ σ → F.nx δ μ → E.nx σ H
  rt : Fw K H0 μ0 F.rt E.rt
  bk : ∀ σ H δ μ, Kp H0 μ0 H μ → RM K H μ → RepS K H μ δ σ → F.bk δ μ → E.bk σ H
  ct : ∀ σ H δ μ, Kp H0 μ0 H μ → RM K H μ → RepS K H μ δ σ → F.ct δ μ → E.ct σ H
theorem EOk.re {K : PySem.W.Frag} {H H1 : Hp} {μ μ1 : Mu} {E : Ends} {F : DEnds} (k : Kp H μ H1 μ1) (e : EOk K H μ E F) : EOk K H1 μ1 E F :=
  ⟨fun σ H δ μ k' => e.nx σ H δ μ (k.trans k'), e.rt.re k, fun σ H δ μ k' => e.bk σ H δ μ (k.trans k'), fun σ H δ μ k' => e.ct σ H δ μ (k.trans k')⟩
def SimS (K : PySem.W.Frag) (t : TS) (g : GS) : Prop := ∀ σ H δ μ (E : Ends) (F : DEnds), RM K H μ → RepS K H μ δ σ → EOk K H μ E F → g F δ μ → t E σ H
structure DE (X : Cx) (e : Expr) (g : GE) : Prop where
  ex : ∃ t, PE X e t ∧ SimE X.K t g
structure DT (X : Cx) (e : Expr) (g : GT) : Prop where
  ex : ∃ t, PT X e t ∧ SimT X.K t g
structure DW (X : Cx) (e : Expr) (g : GT) : Prop where
  ex : ∃ t, PW X e t ∧ SimT X.K t g
structure DA (X : Cx) (es : List Expr) (g : GA) : Prop where
  ex : ∃ t, PA X es t ∧ SimA X.K t g
structure DSt (X : Cx) (st : Stmt) (g : GS) : Prop where
  ex : ∃ t, PS X st t ∧ SimS X.K t g
structure DSs (X : Cx) (st : List Stmt) (g : GS) : Prop where
  ex : ∃ t, PSs X st t ∧ SimS X.K t g
theorem DW.dt {X : Cx} {e : Expr} {g : GT} (h : DW X e g) : DT X e g := let ⟨t, a, b⟩ := h.ex; ⟨t, a.pt, b⟩
/-! ### by values -/
abbrev G1 := D → Mu → KD → Prop
abbrev G2 := D → D → Mu → KD → Prop
abbrev GC := List D → Mu → KD → Prop
def SimU (K : PySem.W.Frag) (r : V → Hp → VK → Prop) (g : G1) : Prop := ∀ x dx H μ (Q : VK) (R : KD), RM K H μ → Rep K H μ dx x → g dx μ R → Fw K H μ R Q → r x H Q
def SimO (K : PySem.W.Frag) (r : R2) (g : G2) : Prop := ∀ x y dx dy H μ (Q : VK) (R : KD), RM K H μ → Rep K H μ dx x → Rep K H μ dy y → g dx dy μ R → Fw K H μ R Q → r x y H Q
def SimC (K : PySem.W.Frag) (r : List V → Hp → VK → Prop) (g : GC) : Prop := ∀ vs ds H μ (Q : VK) (R : KD), RM K H μ → RepL K H μ ds vs → g ds μ R → Fw K H μ R Q → r vs H Q
/-! ### expressions -/
def gVar (i : Nat) : GE := fun δ μ R => match δ.getD i none with
  | some d => R d μ
  | none => False
def gC (d : D) : GE := fun _ μ R => R d μ
section
variable {X : Cx}
theorem dv (i : Nat) {x : Str} {pos : Pos} (hN : X.N[i]? = some x := by rfl) (hv : Vis X.env.scope x := by first | exact Or.inl rfl | exact Or.inr (Or.inl rfl) | exact Or.inr (Or.inr rfl)) (hd : (x == ("__debug__" : Str)) = false := by decide)
    (hcd : (x == ("__classdict__" : Str)) = false := by decide) : DE X (.Name x pos) (gVar i) := by
  refine ⟨tVar i, pe_var hN hv hd hcd, fun σ H δ μ Q R rm rs g f => ?_⟩
  unfold gVar at g
  rw [List.getD_eq_getElem?_getD] at g
  cases e : δ[i]? with
  | none => rw [e] at g; exact False.elim g
  | some o =>
    cases o with
    | none => rw [e] at g; exact False.elim g
    | some d =>
      rw [e] at g
      obtain ⟨v, e2, rv⟩ := rs.get e
      exact ⟨v, e2, f v d H μ (Kp.refl _ _) rm rv g⟩
theorem de_c {e : Expr} {v : V} {d : D} (h : PE X e (tC v)) (r : ∀ H μ, Rep X.K H μ d v) : DE X e (gC d) := ⟨tC v, h, fun σ H δ μ Q R rm rs g f => f v d H μ (Kp.refl _ _) rm (r H μ) g⟩
theorem de_int {i j pos} : DE X (.Constant (.int i) j pos) (gC (.int i)) := de_c pe_int fun _ _ => by unfold Rep; rfl
theorem de_bl {i j pos} : DE X (.Constant (.bool i) j pos) (gC (.bl i)) := de_c pe_bl fun _ _ => by unfold Rep; rfl
theorem de_non {j pos} : DE X (.Constant .none j pos) (gC .non) := de_c pe_non fun _ _ => by unfold Rep; rfl
theorem de_str {x j pos} : DE X (.Constant (.str x) j pos) (gC (.str x)) := de_c pe_str fun _ _ => by unfold Rep; rfl
theorem de_globI {x : Str} {i : Int} {t : Tok} {pos : Pos} (hg : Gl X x) (hm : X.mg x = some (.int i t)) (hd : (x == ("__debug__" : Str)) = false := by decide) : DE X (.Name x pos) (gC (.int i)) :=
  de_c (pe_glob (v := .int i) hg hm ⟨t, rfl⟩ hd) fun _ _ => by unfold Rep; rfl
theorem de_globS {x : Str} {i : Str} {t : Tok} {pos : Pos} (hg : Gl X x) (hm : X.mg x = some (.str i t)) (hd : (x == ("__debug__" : Str)) = false := by decide) : DE X (.Name x pos) (gC (.str i)) :=
  de_c (pe_glob (v := .str i) hg hm ⟨t, rfl⟩ hd) fun _ _ => by unfold Rep; rfl
def gOp (r : G2) (ga gb : GE) : GE := fun δ μ R => ga δ μ fun x μ1 => gb δ μ1 fun y μ2 => r x y μ2 R
theorem sim_op {K : PySem.W.Frag} {r : R2} {ta tb : TE} {g : G2} {ga gb : GE} (h : SimO K r g) (ha : SimE K ta ga) (hb : SimE K tb gb) : SimE K (tOp r ta tb) (gOp g ga gb) := by
  intro σ H δ μ Q R rm rs q f
  refine ha σ H δ μ _ _ rm rs q fun v d H1 μ1 k1 rm1 r1 q1 => ?_
  refine hb σ H1 δ μ1 _ _ rm1 (rs.mono k1) q1 fun v2 d2 H2 μ2 k2 rm2 r2 q2 => ?_
  exact h v v2 d d2 H2 μ2 Q R rm2 (r1.mono k2) r2 q2 (f.re (k1.trans k2))
theorem de_op {op : Operator} {a b : Expr} {ga gb : GE} {r : R2} {g : G2} {pos : Pos} (ho : OpR X (binaryOp op) r) (h : SimO X.K r g) (ha : DE X a ga) (hb : DE X b gb) : DE X (.BinOp a op b pos) (gOp g ga gb) :=
  let ⟨_, a1, a2⟩ := ha.ex; let ⟨_, b1, b2⟩ := hb.ex; ⟨_, pe_op ho a1 b1, sim_op h a2 b2⟩
theorem de_cmp {op : CmpOp} {a b : Expr} {ga gb : GE} {r : R2} {g : G2} {pos : Pos} (ho : OpR X (compareOp op) r) (h : SimO X.K r g) (ha : DE X a ga) (hb : DE X b gb) (hm : behindInMarks op b = false) : DE X (.Compare a [op] [b] pos) (gOp g ga gb) :=
  let ⟨_, a1, a2⟩ := ha.ex; let ⟨_, b1, b2⟩ := hb.ex; ⟨_, pe_cmpR ho a1 b1 hm, sim_op h a2 b2⟩
theorem de_ix {a b : Expr} {ga gb : GE} {r : R2} {g : G2} {pos : Pos} (ho : IxR X r) (h : SimO X.K r g) (ha : DE X a ga) (hb : DE X b gb) (hs : PlainIx b) : DE X (.Subscript a b pos) (gOp g ga gb) :=
  let ⟨_, a1, a2⟩ := ha.ex; let ⟨_, b1, b2⟩ := hb.ex; ⟨_, pe_ix ho a1 b1 hs, sim_op h a2 b2⟩
def gUn (r : G1) (ga : GE) : GE := fun δ μ R => ga δ μ fun x μ1 => r x μ1 R
theorem sim_un {K : PySem.W.Frag} {r : V → Hp → VK → Prop} {ta : TE} {g : G1} {ga : GE} (h : SimU K r g) (ha : SimE K ta ga) : SimE K (tUn r ta) (gUn g ga) := by
  intro σ H δ μ Q R rm rs q f
  exact ha σ H δ μ _ _ rm rs q fun v d H1 μ1 k1 rm1 r1 q1 => h v d H1 μ1 Q R rm1 r1 q1 (f.re k1)
theorem de_un {op : UnaryOp} {a : Expr} {ga : GE} {r : V → Hp → VK → Prop} {g : G1} {pos : Pos} (ho : UnR X (unaryOp op) r) (h : SimU X.K r g) (ha : DE X a ga) : DE X (.UnaryOp op a pos) (gUn g ga) :=
  let ⟨_, a1, a2⟩ := ha.ex; ⟨_, pe_un ho a1, sim_un h a2⟩
/-- a value that is a bool, as a test -/
def bK (R : Bool → Mu → Prop) : KD := fun d μ => match d with
  | .bl b => R b μ
  | _ => False
def gB (g : GE) : GT := fun δ μ R => g δ μ (bK R)
theorem sim_b {K : PySem.W.Frag} {t : TE} {g : GE} (h : SimE K t g) : SimT K (fun σ H Q => t σ H fun x H1 => ∃ c, x = .bl c ∧ Q c H1) (gB g) := by
  intro σ H δ μ Q R rm rs q f
  refine h σ H δ μ _ _ rm rs q fun v d H1 μ1 k1 rm1 r1 q1 => ?_
  cases d <;> try exact False.elim q1
  rename_i b
  unfold Rep at r1
  exact ⟨b, r1, f b H1 μ1 k1 rm1 q1⟩
theorem dt_cmp {op : CmpOp} {a b : Expr} {ga gb : GE} {r : R2} {g : G2} {pos : Pos} (ho : OpR X (compareOp op) r) (h : SimO X.K r g) (ha : DE X a ga) (hb : DE X b gb) (hm : behindInMarks op b = false) : DT X (.Compare a [op] [b] pos) (gB (gOp g ga gb)) :=
  let ⟨_, a1, a2⟩ := ha.ex; let ⟨_, b1, b2⟩ := hb.ex; ⟨_, pt_cmpR ho a1 b1 hm, sim_b (sim_op h a2 b2)⟩
theorem dt_val {e : Expr} {g : GE} (h : DE X e g) (he : ∀ whole, isTrue e X.env whole = (do let v ← whole; standAt e.pos; holding [v] (truthy v)) := by intro _; rfl) : DT X e (gB g) :=
  let ⟨_, a1, a2⟩ := h.ex; ⟨_, pt_val a1 he, sim_b a2⟩
def gOr (t u : GT) : GT := fun δ μ R => t δ μ fun c μ1 => if c = true then R true μ1 else u δ μ1 R
def gNot (t : GT) : GT := fun δ μ R => t δ μ fun c μ1 => R (!c) μ1
variable {a b : Expr} {rest : List Expr} {pos : Pos} {gt gu : GT} {ga gb : GE}
theorem dw_or1 (h : DT X a gt) : DW X (.BoolOp .Or [a] pos) gt := let ⟨_, a1, a2⟩ := h.ex; ⟨_, pw_or1 a1, a2⟩
theorem dw_or (h : DT X a gt) (h2 : DW X (.BoolOp .Or (b :: rest) pos) gu) : DW X (.BoolOp .Or (a :: b :: rest) pos) (gOr gt gu) := by
  obtain ⟨t, a1, a2⟩ := h.ex
  obtain ⟨u, b1, b2⟩ := h2.ex
  refine ⟨_, pw_or a1 b1, fun σ H δ μ Q R rm rs q f => ?_⟩
  refine a2 σ H δ μ _ _ rm rs q fun c H1 μ1 k1 rm1 q1 => ?_
  cases c with
  | false => exact b2 σ H1 δ μ1 Q R rm1 (rs.mono k1) q1 fun b H2 μ2 k2 => f b H2 μ2 (k1.trans k2)
  | true => exact f true H1 μ1 k1 rm1 q1
theorem dt_not (h : DT X a gt) : DT X (.UnaryOp .Not a pos) (gNot gt) := by
  obtain ⟨t, a1, a2⟩ := h.ex
  exact ⟨_, pt_not a1, fun σ H δ μ Q R rm rs q f => a2 σ H δ μ _ _ rm rs q fun c H1 μ1 k1 rm1 q1 => f (!c) H1 μ1 k1 rm1 q1⟩
/-- and, or, not as values (bools) -/
def gAndV (t u : GE) : GE := fun δ μ R => t δ μ (bK fun c μ1 => if c = true then u δ μ1 R else R (.bl false) μ1)
theorem de_one {op} (h : DE X a ga) : DE X (.BoolOp op [a] pos) ga := let ⟨_, a1, a2⟩ := h.ex; ⟨_, pe_one a1, a2⟩
theorem de_and (h : DE X a ga) (h2 : DE X (.BoolOp .And (b :: rest) pos) gb) : DE X (.BoolOp .And (a :: b :: rest) pos) (gAndV ga gb) := by
  obtain ⟨t, a1, a2⟩ := h.ex
  obtain ⟨u, b1, b2⟩ := h2.ex
  refine ⟨_, pe_and a1 b1, fun σ H δ μ Q R rm rs q f => ?_⟩
  refine a2 σ H δ μ _ _ rm rs q fun v d H1 μ1 k1 rm1 r1 q1 => ?_
  cases d <;> try exact False.elim q1
  rename_i c
  unfold Rep at r1
  refine ⟨c, r1, ?_⟩
  cases c with
  | true => exact b2 σ H1 δ μ1 Q R rm1 (rs.mono k1) q1 (f.re k1)
  | false => exact f (.bl false) (.bl false) H1 μ1 k1 rm1 (by unfold Rep; rfl) q1
def gIf (t : GT) (ga gb : GE) : GE := fun δ μ R => t δ μ fun c μ1 => if c = true then ga δ μ1 R else gb δ μ1 R
theorem de_if {c : Expr} (h : DT X c gt) (ha : DE X a ga) (hb : DE X b gb) : DE X (.IfExp c a b pos) (gIf gt ga gb) := by
  obtain ⟨t, c1, c2⟩ := h.ex
  obtain ⟨u, a1, a2⟩ := ha.ex
  obtain ⟨w, b1, b2⟩ := hb.ex
  refine ⟨_, pe_ifExp c1 a1 b1, fun σ H δ μ Q R rm rs q f => ?_⟩
  refine c2 σ H δ μ _ _ rm rs q fun c H1 μ1 k1 rm1 q1 => ?_
  cases c with
  | true => exact a2 σ H1 δ μ1 Q R rm1 (rs.mono k1) q1 (f.re k1)
  | false => exact b2 σ H1 δ μ1 Q R rm1 (rs.mono k1) q1 (f.re k1)
/-- a op1 b op2 c -/
def gChain (r r' : G2) (ga gb gc : GE) : GE := fun δ μ R => ga δ μ fun x μ1 => gb δ μ1 fun y μ2 => r x y μ2 (bK fun k μ3 => if k = true then gc δ μ3 fun z μ4 => r' y z μ4 R else R (.bl false) μ3)
/-! ### arguments, displays -/
def gNil : GA := fun _ μ R => R [] μ
def gCons (ga : GE) (gr : GA) : GA := fun δ μ R => ga δ μ fun x μ1 => gr δ μ1 fun xs μ2 => R (x :: xs) μ2
variable {e : Expr} {es : List Expr} {gr : GA}
theorem da_nil : DA X [] gNil := ⟨_, pa_nil, fun σ H δ μ Q R rm rs q f => f [] [] H μ (Kp.refl _ _) rm RepL.nil q⟩
theorem da_cons (ha : DE X e ga) (hr : DA X es gr) (hs : starEach (e :: es) X.env = (false, eval e X.env) :: starEach es X.env := by rfl) : DA X (e :: es) (gCons ga gr) := by
  obtain ⟨t, a1, a2⟩ := ha.ex
  obtain ⟨u, b1, b2⟩ := hr.ex
  refine ⟨_, pa_cons a1 b1 hs, fun σ H δ μ Q R rm rs q f => ?_⟩
  refine a2 σ H δ μ _ _ rm rs q fun v d H1 μ1 k1 rm1 r1 q1 => ?_
  exact b2 σ H1 δ μ1 _ _ rm1 (rs.mono k1) q1 fun vs ds H2 μ2 k2 rm2 r2 q2 => f (v :: vs) (d :: ds) H2 μ2 (k1.trans k2) rm2 (RepL.cons (r1.mono k2) r2) q2
def gTup (g : GA) : GE := fun δ μ R => g δ μ fun ds μ1 => ds.length ≤ sizeLine ∧ R (.tup ds) μ1
def gLst (g : GA) : GE := fun δ μ R => g δ μ fun ds μ1 => ds.length ≤ sizeLine ∧ R (.lst ds) μ1
/-- a list that will change -/
def gCell (g : GA) : GE := fun δ μ R => g δ μ fun ds μ1 => ds.length ≤ sizeLine ∧ ∀ a, μ1 a = none → R (.adr a) (put μ1 a (.lst ds))
theorem RM.new {K : PySem.W.Frag} {H H' : Hp} {μ : Mu} (rm : RM K H μ) (k : Kp H μ H' μ) (h : ∀ a o, μ a = some o → H' a = H a) : RM K H' μ := fun a o e => by
  have q := rm a o e
  cases o with
  | lst ds => obtain ⟨vs, h1, h2⟩ := q; exact ⟨vs, (h _ _ e).trans h1, h2.mono k _ _⟩
  | dct kvs => obtain ⟨vs, h1, h2⟩ := q; exact ⟨vs, (h _ _ e).trans h1, h2.mono k _ _⟩
  | dtt kvs => obtain ⟨vs, h1, h2⟩ := q; exact ⟨vs, (h _ _ e).trans h1, h2.mono k _ _⟩
  | lck kvs => obtain ⟨o, vs, h1, h2⟩ := q; exact ⟨o, vs, (h _ _ e).trans h1, h2.mono k _ _⟩
  | ftp ds => obtain ⟨o, vs, h1, d, h2⟩ := q; exact ⟨o, vs, (h _ _ e).trans h1, d, h2.mono k _ _⟩
  | ins C fs => obtain ⟨dx, vs, h1, h2⟩ := q; exact ⟨dx, vs, (h _ _ e).trans h1, h2.mono k _ _⟩
theorem RM.has {K : PySem.W.Frag} {H : Hp} {μ : Mu} (rm : RM K H μ) {a : Addr} {o : MO} (e : μ a = some o) : H a ≠ none := by
  have q := rm a o e
  cases o with
  | lst ds => obtain ⟨vs, h1, h2⟩ := q; rw [h1]; simp
  | dct kvs => obtain ⟨vs, h1, h2⟩ := q; rw [h1]; simp
  | dtt kvs => obtain ⟨vs, h1, h2⟩ := q; rw [h1]; simp
  | lck kvs => obtain ⟨o, vs, h1, h2⟩ := q; rw [h1]; simp
  | ftp ds => obtain ⟨o, vs, h1, _, _⟩ := q; rw [h1]; simp
  | ins C fs => obtain ⟨dx, vs, h1, h2⟩ := q; rw [h1]; simp
theorem RM.free {K : PySem.W.Frag} {H : Hp} {μ : Mu} (rm : RM K H μ) {a : Addr} (e : H a = none) : μ a = none := by
  cases q : μ a with
  | none => rfl
  | some o => exact absurd e (rm.has q)
theorem RM.laid {K : PySem.W.Frag} {H : Hp} {μ : Mu} {p : Addr} {o : HO} (rm : RM K H μ) (n : H p = none) : RM K (upd H p o) μ :=
  rm.new (Kp.new n) fun a u e => upd_ne (fun z => rm.has e (by rw [z]; exact n))
/-- the store with p's new content -/
theorem RM.put {K : PySem.W.Frag} {H H' : Hp} {μ : Mu} {p : Addr} {m : MO} (rm : RM K H μ) (k : Kp H μ H' (put μ p m)) (h : ∀ a o, a ≠ p → μ a = some o → H' a = H a) (hp : RepO K H' (put μ p m) m p) : RM K H' (put μ p m) := fun a o e => by
  by_cases ea : a = p
  · rw [ea, put_same] at e
    cases e
    rw [ea]; exact hp
  · rw [put_ne ea] at e
    have q := rm a o e
    cases o with
    | lst ds => obtain ⟨vs, h1, h2⟩ := q; exact ⟨vs, (h _ _ ea e).trans h1, h2.mono k _ _⟩
    | dct kvs => obtain ⟨vs, h1, h2⟩ := q; exact ⟨vs, (h _ _ ea e).trans h1, h2.mono k _ _⟩
    | dtt kvs => obtain ⟨vs, h1, h2⟩ := q; exact ⟨vs, (h _ _ ea e).trans h1, h2.mono k _ _⟩
    | lck kvs => obtain ⟨o, vs, h1, h2⟩ := q; exact ⟨o, vs, (h _ _ ea e).trans h1, h2.mono k _ _⟩
    | ftp ds => obtain ⟨o, vs, h1, d, h2⟩ := q; exact ⟨o, vs, (h _ _ ea e).trans h1, d, h2.mono k _ _⟩
    | ins C fs => obtain ⟨dx, vs, h1, h2⟩ := q; exact ⟨dx, vs, (h _ _ ea e).trans h1, h2.mono k _ _⟩
theorem RM.drop {K : PySem.W.Frag} {H : Hp} {μ : Mu} {p : Addr} (rm : RM K H μ) : RM K H (del μ p) := fun a o e => by
  by_cases ea : a = p
  · rw [ea, del_same] at e; cases e
  · rw [del_ne ea] at e
    have q := rm a o e
    cases o with
    | lst ds => obtain ⟨vs, h1, h2⟩ := q; exact ⟨vs, h1, h2.mono Kp.drop _ _⟩
    | dct kvs => obtain ⟨vs, h1, h2⟩ := q; exact ⟨vs, h1, h2.mono Kp.drop _ _⟩
    | dtt kvs => obtain ⟨vs, h1, h2⟩ := q; exact ⟨vs, h1, h2.mono Kp.drop _ _⟩
    | lck kvs => obtain ⟨o, vs, h1, h2⟩ := q; exact ⟨o, vs, h1, h2.mono Kp.drop _ _⟩
    | ftp ds => obtain ⟨o, vs, h1, d, h2⟩ := q; exact ⟨o, vs, h1, d, h2.mono Kp.drop _ _⟩
    | ins C fs => obtain ⟨dx, vs, h1, h2⟩ := q; exact ⟨dx, vs, h1, h2.mono Kp.drop _ _⟩
theorem de_tup {x1} (h : DA X es gr) : DE X (.Tuple es x1 pos) (gTup gr) := by
  obtain ⟨t, a1, a2⟩ := h.ex
  refine ⟨_, pe_tup a1, fun σ H δ μ Q R rm rs q f => ?_⟩
  refine a2 σ H δ μ _ _ rm rs q fun vs ds H1 μ1 k1 rm1 r1 q1 => ⟨by rw [r1.length]; exact q1.1, fun p n => ?_⟩
  refine f (.ref p) (.tup ds) _ μ1 (k1.trans (Kp.new n)) (rm1.laid n) ?_ q1.2
  unfold Rep
  exact ⟨p, vs, rfl, .inl ⟨upd_same, rm1.free n⟩, r1.mono (Kp.new n) _ _⟩
theorem de_lst (h : DA X es gr) : DE X (.List es pos) (gLst gr) := by
  obtain ⟨t, a1, a2⟩ := h.ex
  refine ⟨_, pe_lst a1, fun σ H δ μ Q R rm rs q f => ?_⟩
  refine a2 σ H δ μ _ _ rm rs q fun vs ds H1 μ1 k1 rm1 r1 q1 => ⟨by rw [r1.length]; exact q1.1, fun p n => ?_⟩
  refine f (.ref p) (.lst ds) _ μ1 (k1.trans (Kp.new n)) (rm1.laid n) ?_ q1.2
  unfold Rep
  exact ⟨p, vs, rfl, upd_same, rm1.free n, r1.mono (Kp.new n) _ _⟩
theorem RM.cell {K : PySem.W.Frag} {H : Hp} {μ : Mu} {p : Addr} {vs : List V} {ds : List D} (rm : RM K H μ) (n : H p = none) (r : RepL K H μ ds vs) : RM K (upd H p (.lst vs)) (DL.put μ p (.lst ds)) :=
  rm.put (Kp.cell n) (fun a o ea e => upd_ne ea) ⟨vs, upd_same, r.mono (Kp.cell n) _ _⟩
theorem de_cell (h : DA X es gr) : DE X (.List es pos) (gCell gr) := by
  obtain ⟨t, a1, a2⟩ := h.ex
  refine ⟨_, pe_lst a1, fun σ H δ μ Q R rm rs q f => ?_⟩
  refine a2 σ H δ μ _ _ rm rs q fun vs ds H1 μ1 k1 rm1 r1 q1 => ⟨by rw [r1.length]; exact q1.1, fun p n => ?_⟩
  exact f (.ref p) (.adr p) _ _ (k1.trans (Kp.cell n)) (rm1.cell n r1) (by unfold Rep; rfl) (q1.2 p (rm1.free n))
end
end DL
set_option Elab.async false
set_option linter.all false
set_option maxRecDepth 100000
namespace DL
open PySem PySem.Spec PyProof.Rows L2
/-! ### the one reading of a data reading -/
def tOf (K : PySem.W.Frag) (g : GE) : TE := fun σ H Q => ∃ δ μ R, RM K H μ ∧ RepS K H μ δ σ ∧ g δ μ R ∧ Fw K H μ R Q
def tTOf (K : PySem.W.Frag) (g : GT) : TT := fun σ H Q => ∃ δ μ R, RM K H μ ∧ RepS K H μ δ σ ∧ g δ μ R ∧ ∀ b H' μ', Kp H μ H' μ' → RM K H' μ' → R b μ' → Q b H'
theorem sim_of {K : PySem.W.Frag} {g : GE} : SimE K (tOf K g) g := fun σ H δ μ Q R rm rs q f => ⟨δ, μ, R, rm, rs, q, f⟩
theorem simT_of {K : PySem.W.Frag} {g : GT} : SimT K (tTOf K g) g := fun σ H δ μ Q R rm rs q f => ⟨δ, μ, R, rm, rs, q, f⟩
theorem DE.pe {X : Cx} {e : Expr} {g : GE} (h : DE X e g) : PE X e (tOf X.K g) := by
  obtain ⟨t, a, b⟩ := h.ex
  refine ⟨fun pins s σ H Q I ⟨δ, μ, R, rm, rs, q, f⟩ => a.run pins s σ H Q I (b σ H δ μ Q R rm rs q f)⟩
structure DTs (X : Cx) (es : List Expr) (g : GT) : Prop where
  ex : ∃ t, PTs X es t ∧ SimT X.K t g
theorem DTs.pt {X : Cx} {e : List Expr} {g : GT} (h : DTs X e g) : PTs X e (tTOf X.K g) := by
  obtain ⟨t, a, b⟩ := h.ex
  refine ⟨fun pins s σ H Q I ⟨δ, μ, R, rm, rs, q, f⟩ => a.run pins s σ H Q I (b σ H δ μ Q R rm rs q f)⟩
def gYes : GT := fun _ μ R => R true μ
theorem dts_nil {X : Cx} : DTs X [] gYes := ⟨_, pts_nil, fun σ H δ μ Q R rm rs q f => f true H μ (Kp.refl _ _) rm q⟩
theorem dts_one {X : Cx} {c : Expr} {g : GT} (h : DT X c g) : DTs X [c] g := let ⟨_, a, b⟩ := h.ex; ⟨_, pts_one a, b⟩
/-! ### targets -/
abbrev GG := D → DS → (DS → Prop) → Prop
abbrev GGs := List D → DS → (DS → Prop) → Prop
/-- ow: the slots that it stores -/
def SimG (K : PySem.W.Frag) (t : TG) (g : GG) (ow : List Nat) : Prop := ∀ v d σ H δ μ (Q : L2.St → Hp → Prop) (R : DS → Prop), RM K H μ → RepS K H μ δ σ → Rep K H μ d v → g d δ R →
  (∀ σ' δ', RepS K H μ δ' σ' → R δ' → (∀ vs : List Nat, (∀ i ∈ ow, i ∈ vs) → L2.wipe σ' vs = L2.wipe σ vs) → Q σ' H) → t v σ H Q
def SimGs (K : PySem.W.Frag) (t : TGs) (g : GGs) (ow : List Nat) : Prop := ∀ vs ds σ H δ μ (Q : L2.St → Hp → Prop) (R : DS → Prop), RM K H μ → RepS K H μ δ σ → RepL K H μ ds vs → g ds δ R →
  (∀ σ' δ', RepS K H μ δ' σ' → R δ' → (∀ vs : List Nat, (∀ i ∈ ow, i ∈ vs) → L2.wipe σ' vs = L2.wipe σ vs) → Q σ' H) → t vs σ H Q
theorem wipe_get (σ : L2.St) (j : Nat) : ∀ vs : List Nat, (L2.wipe σ vs)[j]? = if j ∈ vs then (if j < σ.length then some none else none) else σ[j]?
  | [] => by simp [L2.wipe]
  | v :: vs => by
    unfold L2.wipe
    by_cases h : v = j
    · subst h
      by_cases hl : v < σ.length
      · rw [List.getElem?_set_self (by rw [L2.wipe_length]; exact hl)]
        simp [hl]
      · rw [List.getElem?_eq_none (by rw [List.length_set, L2.wipe_length]; omega)]
        simp [hl]
    · rw [List.getElem?_set_ne h, wipe_get σ j vs]
      have h' : ¬ j = v := fun e => h e.symm
      simp [h']
theorem wipe_set {σ : L2.St} {i : Nat} {o : Option V} {vs : List Nat} (h : i ∈ vs) : L2.wipe (σ.set i o) vs = L2.wipe σ vs := by
  apply List.ext_getElem?
  intro j
  rw [wipe_get, wipe_get, List.length_set]
  by_cases hj : j ∈ vs
  · rw [if_pos hj, if_pos hj]
  · rw [if_neg hj, if_neg hj]
    rw [List.getElem?_set_ne]
    rintro rfl
    exact hj h
theorem wipe_wipe {σ : L2.St} {vs : List Nat} : L2.wipe (L2.wipe σ vs) vs = L2.wipe σ vs := by
  apply List.ext_getElem?
  intro j
  rw [wipe_get, wipe_get, L2.wipe_length]
  by_cases hj : j ∈ vs
  · rw [if_pos hj, if_pos hj]
  · rw [if_neg hj, if_neg hj]
def gNm (i : Nat) : GG := fun d δ R => R (δ.set i (some d))
theorem sim_nm {K : PySem.W.Frag} {i : Nat} : SimG K (gName i) (gNm i) [i] := fun v d σ H δ μ Q R rm rs r q f =>
  f _ _ (rs.set i r) q fun vs h => wipe_set (h i (List.mem_singleton.mpr rfl))
def gNilT : GGs := fun ds δ R => match ds with
  | [] => R δ
  | _ :: _ => False
def gConsT (t : GG) (u : GGs) : GGs := fun ds δ R => match ds with
  | d :: r => t d δ fun δ' => u r δ' R
  | [] => False
theorem sim_nilT {K : PySem.W.Frag} : SimGs K L2.gNil gNilT [] := by
  intro vs ds σ H δ μ Q R rm rs r q f
  cases ds with
  | nil =>
    unfold RepL at r
    exact ⟨r, f σ δ rs q fun _ _ => rfl⟩
  | cons d ds => exact False.elim q
theorem sim_consT {K : PySem.W.Frag} {t : TG} {u : TGs} {g : GG} {gs : GGs} {o os : List Nat} (h : SimG K t g o) (h2 : SimGs K u gs os) : SimGs K (L2.gCons t u) (gConsT g gs) (o ++ os) := by
  intro vs ds σ H δ μ Q R rm rs r q f
  cases ds with
  | nil => exact False.elim q
  | cons d ds =>
    unfold RepL at r
    obtain ⟨v, w, rfl, r1, r2⟩ := r
    refine ⟨v, w, rfl, h v d σ H δ μ _ _ rm rs r1 q fun σ' δ' rs' q' w1 => ?_⟩
    exact h2 w ds σ' H δ' μ _ _ rm rs' r2 q' fun σ2 δ2 rs2 q2 w2 => f σ2 δ2 rs2 q2 fun vs hv => (w2 vs fun i hi => hv i (List.mem_append_right _ hi)).trans (w1 vs fun i hi => hv i (List.mem_append_left _ hi))
def gTupT (n : Nat) (t : GGs) : GG := fun d δ R => match d with
  | .tup ds => ds.length = n ∧ t ds δ R
  | _ => False
theorem sim_tupT {K : PySem.W.Frag} {n : Nat} {t : TGs} {g : GGs} {o : List Nat} (h : SimGs K t g o) : SimG K (L2.gTup K n t) (gTupT n g) o := by
  intro v d σ H δ μ Q R rm rs r q f
  cases d <;> try exact False.elim q
  rename_i ds
  unfold Rep at r
  obtain ⟨a, vs, rfl, im, rl⟩ := r
  exact ⟨a, vs, rfl, im.sq, by rw [rl.length]; exact q.1, h vs ds σ H δ μ Q R rm rs rl q.2 f⟩
/-! ### what is walked -/
abbrev GI := DS → Mu → (List D → Mu → Prop) → Prop
abbrev WalkD (K : PySem.W.Frag) (J : It) (items : List D) (H1 : Hp) (μ1 : Mu) : Prop :=
  Walk J items.length (fun H => ∃ μ, Kp H1 μ1 H μ ∧ RM K H μ) (fun i H x H' => ∀ μ, Kp H1 μ1 H μ → RM K H μ → ∃ d, items[i]? = some d ∧ Rep K H' μ d x ∧ Kp H μ H' μ ∧ RM K H' μ)
def SimI (K : PySem.W.Frag) (t : TI) (g : GI) : Prop := ∀ σ H δ μ (Q : It → Hp → Prop) (R : List D → Mu → Prop), RM K H μ → RepS K H μ δ σ → g δ μ R →
  (∀ J items H' μ', Kp H μ H' μ' → RM K H' μ' → WalkD K J items H' μ' → R items μ' → Q J H') → t σ H Q
structure DI (X : Cx) (tg iter : Expr) (g : GI) : Prop where
  ex : ∃ t, PI X tg iter t ∧ SimI X.K t g
def signs (x : Str) : List D := x.cps.toList.map fun c => D.str ⟨#[c]⟩
def gItemsS (g : GE) : GI := fun δ μ R => g δ μ fun d μ1 => match d with
  | .str x => R (signs x) μ1
  | _ => False
def gRange (g : GA) : GI := fun δ μ R => g δ μ fun ds μ1 => match ds with
  | [.int n] => (-(2 ^ 62) ≤ n ∧ n < 2 ^ 62) ∧ R ((List.range n.toNat).map fun i => D.int (i : Nat)) μ1
  | _ => False
section
variable {X : Cx} {tg e : Expr} {g : GE} {ga : GA}
theorem walk_seq {K : PySem.W.Frag} {a : Addr} {vs : List V} {ds : List D} {H : Hp} {μ : Mu} (hq : ∀ H' μ', Kp H μ H' μ' → SqL K H' a vs) (r : RepL K H μ ds vs) : WalkD K (Itl K a) ds H μ := by
  have e := r.length
  rw [WalkD, ← e]
  refine (walk_list (K := K) (a := a) (xs := vs)).mono (fun H' ⟨μ', k, _⟩ => hq H' μ' k) fun i H' x H2 hi _ ⟨e1, e2⟩ μ' k rm => ?_
  subst e1
  obtain ⟨d, e3, r1⟩ := (r.mono k).atV e2
  exact ⟨d, e3, r1, Kp.refl _ _, rm⟩
theorem di_str (h : DE X e g) : DI X tg e (gItemsS g) := by
  obtain ⟨t, a1, a2⟩ := h.ex
  refine ⟨_, pi_str a1, fun σ H δ μ Q R rm rs q f => ?_⟩
  refine a2 σ H δ μ _ _ rm rs q fun v d H1 μ1 k1 rm1 r1 q1 => ?_
  cases d <;> try exact False.elim q1
  rename_i x
  unfold Rep at r1
  refine ⟨x, r1, f _ (signs x) H1 μ1 k1 rm1 ?_ q1⟩
  have e : x.cps.size = (signs x).length := by simp [signs]
  rw [WalkD, ← e]
  refine (walk_str (z := x)).mono (fun H' _ => True.intro) fun i H' y H2 hi _ ⟨e1, c, e2, e3⟩ μ' k rm => ?_
  subst e1
  subst e3
  refine ⟨.str ⟨#[c]⟩, ?_, by unfold Rep; rfl, Kp.refl _ _, rm⟩
  unfold signs
  rw [List.getElem?_map, Array.getElem?_toList, e2]
  rfl
theorem di_range {p pos : Pos} (hg : Gl X "range") (hm : X.mg "range" = none) (h : DA X [e] ga) (hs : starEach [e] X.env = [(false, eval e X.env)] := by rfl) : DI X tg (.Call (.Name "range" p) [e] [] pos) (gRange ga) := by
  obtain ⟨t, a1, a2⟩ := h.ex
  refine ⟨_, pi_range1 hg hm a1 hs, fun σ H δ μ Q R rm rs q f => ?_⟩
  refine a2 σ H δ μ _ _ rm rs q fun vs ds H1 μ1 k1 rm1 r1 q1 => ?_
  unfold gRange at q
  match ds, q1, r1 with
  | [.int n], q1, r1 =>
    unfold RepL at r1
    obtain ⟨v, r, rfl, r2, r3⟩ := r1
    unfold RepL at r3
    unfold Rep at r2
    subst r2 r3
    refine ⟨n, rfl, q1.1.1, q1.1.2, f _ _ H1 μ1 k1 rm1 ?_ q1.2⟩
    have e : n.toNat = ((List.range n.toNat).map fun i => D.int (i : Nat)).length := by simp
    rw [WalkD, ← e]
    refine (walk_range (lo := 0) (n := n.toNat)).mono (fun H' _ => True.intro) fun i H' y H2 hi _ ⟨e1, e2⟩ μ' k rm => ?_
    subst e1 e2
    refine ⟨.int (0 + (i : Nat)), ?_, by unfold Rep; rfl, Kp.refl _ _, rm⟩
    rw [List.getElem?_map, List.getElem?_range hi]
    simp
end
/-! ### statements -/
def gNext : GS := fun F δ μ => F.nx δ μ
def gSeq (t u : GS) : GS := fun F δ μ => t { F with nx := u F } δ μ
section
variable {X : Cx} {st : Stmt} {rest body : List Stmt} {t u : GS} {e : Expr} {ge : GE} {pos : Pos} {a b : List Stmt}
theorem dss_nil : DSs X [] gNext := ⟨_, pss_nil, fun σ H δ μ E F rm rs e q => e.nx σ H δ μ (Kp.refl _ _) rm rs q⟩
theorem dss_one (h : DSt X st t) : DSs X [st] t := let ⟨_, a, b⟩ := h.ex; ⟨_, pss_one a, b⟩
theorem dss_cons (h : DSt X st t) (h2 : DSs X rest u) : DSs X (st :: rest) (gSeq t u) := by
  obtain ⟨t1, a1, a2⟩ := h.ex
  obtain ⟨u1, b1, b2⟩ := h2.ex
  refine ⟨_, pss_cons a1 b1, fun σ H δ μ E F rm rs e q => ?_⟩
  exact a2 σ H δ μ _ { F with nx := u F } rm rs ⟨fun σ1 H1 δ1 μ1 k1 rm1 rs1 q1 => b2 σ1 H1 δ1 μ1 E F rm1 rs1 (e.re k1) q1, e.rt, e.bk, e.ct⟩ q
def gDrop (g : GE) : GS := fun F δ μ => g δ μ fun _ μ1 => F.nx δ μ1
theorem ds_expr (h : DE X e ge) (hs : swapsWith e none pos.line X.env = pure false := by rfl) : DSt X (.Expr e pos) (gDrop ge) := by
  obtain ⟨t1, a1, a2⟩ := h.ex
  refine ⟨_, ps_expr a1 hs, fun σ H δ μ E F rm rs e q => ?_⟩
  exact a2 σ H δ μ _ _ rm rs q fun v d H1 μ1 k1 rm1 r1 q1 => e.nx σ H1 δ μ1 k1 rm1 (rs.mono k1) q1
def gRet (g : GE) : GS := fun F δ μ => g δ μ F.rt
theorem ds_ret (h : DE X e ge) : DSt X (.Return (some e) pos) (gRet ge) := by
  obtain ⟨t1, a1, a2⟩ := h.ex
  exact ⟨_, ps_ret a1, fun σ H δ μ E F rm rs e q => a2 σ H δ μ _ _ rm rs q e.rt⟩
def gIfS (c : GT) (t u : GS) : GS := fun F δ μ => c δ μ fun k μ1 => if k = true then t F δ μ1 else u F δ μ1
theorem ds_if {c : Expr} {gc : GT} (hc : DT X c gc) (ha : DSs X a t) (hb : DSs X b u) : DSt X (.If c a b pos) (gIfS gc t u) := by
  obtain ⟨t0, c1, c2⟩ := hc.ex
  obtain ⟨t1, a1, a2⟩ := ha.ex
  obtain ⟨u1, b1, b2⟩ := hb.ex
  refine ⟨_, ps_if c1 a1 b1, fun σ H δ μ E F rm rs e q => ?_⟩
  refine c2 σ H δ μ _ _ rm rs q fun k H1 μ1 k1 rm1 q1 => ?_
  cases k with
  | true => exact a2 σ H1 δ μ1 E F rm1 (rs.mono k1) (e.re k1) q1
  | false => exact b2 σ H1 δ μ1 E F rm1 (rs.mono k1) (e.re k1) q1
def gNever : GS := fun _ _ _ => False
theorem ds_never : DSt X st gNever := ⟨_, ps_never, fun _ _ _ _ _ _ _ _ _ q => q.elim⟩
def gAsg (g : GE) (t : GG) : GS := fun F δ μ => g δ μ fun d μ1 => t d δ fun δ' => F.nx δ' μ1
theorem sim_asg {K : PySem.W.Frag} {te : TE} {tg : TG} {g : GE} {gg : GG} {ow : List Nat} (h : SimE K te g) (hg : SimG K tg gg ow) : SimS K (tAsg te tg) (gAsg g gg) := by
  intro σ H δ μ E F rm rs e q
  refine h σ H δ μ _ _ rm rs q fun v d H1 μ1 k1 rm1 r1 q1 => ?_
  exact hg v d σ H1 δ μ1 _ _ rm1 (rs.mono k1) r1 q1 fun σ2 δ2 rs2 q2 _ => e.nx σ2 H1 δ2 μ1 k1 rm1 rs2 q2
theorem ds_asg {tg : Expr} {g : TG} {gg : GG} {ow : List Nat} (he : DE X e ge) (hg : PG X tg g) (sg : SimG X.K g gg ow) (hs : swapsWithSole [tg] e pos.line X.env = pure false := by rfl) (hw : swappedStores [tg] e X.env = pure none := by rfl)
    (h1 : (assignEach [tg] X.env).map (·.2) = [assign tg X.env] := by rfl) : DSt X (.Assign [tg] e pos) (gAsg ge gg) := by
  obtain ⟨t1, a1, a2⟩ := he.ex
  exact ⟨_, ps_asg a1 hg hs hw h1, sim_asg a2 sg⟩
theorem ds_set {i : Nat} {x : Str} {pos' : Pos} (hN : X.N.Nodup) (hi : X.N[i]? = some x) (hx : Loc X.env.scope x) (he : DE X e ge) (hs : swapsWith e (some (.Name x pos')) pos.line X.env = pure false := by rfl) (hf : X.fn x = true ∨ X.env.scope.names.lookup x = some .local := by first | exact .inl rfl | exact .inr rfl | assumption) :
    DSt X (.Assign [.Name x pos'] e pos) (gAsg ge (gNm i)) := by
  obtain ⟨t1, a1, a2⟩ := he.ex
  exact ⟨_, ps_set hN hi hx a1 hs hf, sim_asg a2 sim_nm⟩
/-- a, b = x, y -/
def gPar (i j : Nat) (ga : GA) : GS := fun F δ μ => ga δ μ fun ds μ1 => match ds with
  | [d, e] => F.nx ((δ.set i (some d)).set j (some e)) μ1
  | _ => False
theorem ds_par {i j : Nat} {x y : Str} {a b : Expr} {ga : GA} {px py pt : Pos} {kt k2 pt2} (hc : X.calm = true) (hN : X.N.Nodup) (hi : X.N[i]? = some x) (hj : X.N[j]? = some y) (hij : i ≠ j)
    (hx : X.env.scope.names.lookup x = some .local) (hy : X.env.scope.names.lookup y = some .local) (ha : DA X [a, b] ga)
    (hw : swappedStores [.Tuple [.Name x px, .Name y py] kt pt] (.Tuple [a, b] k2 pt2) X.env = pure (some [x, y]))
    (hs : swapsWithSole [.Tuple [.Name x px, .Name y py] kt pt] (.Tuple [a, b] k2 pt2) pos.line X.env = pure false := by rfl) :
    DSt X (.Assign [.Tuple [.Name x px, .Name y py] kt pt] (.Tuple [a, b] k2 pt2) pos) (gPar i j ga) := by
  obtain ⟨t1, a1, a2⟩ := ha.ex
  refine ⟨_, ps_par hc hN hi hj hij hx hy a1 hw hs, fun σ H δ μ E F rm rs e q => ?_⟩
  refine a2 σ H δ μ _ _ rm rs q fun vs ds H1 μ1 k1 rm1 r1 q1 => ?_
  match ds, r1, q1 with
  | [d, d2], r1, q1 =>
    unfold RepL at r1
    obtain ⟨v, r, rfl, r2, r3⟩ := r1
    unfold RepL at r3
    obtain ⟨v2, r, rfl, r4, r5⟩ := r3
    unfold RepL at r5
    subst r5
    exact ⟨v, v2, rfl, e.nx _ H1 _ μ1 k1 rm1 (((rs.mono k1).set i r2).set j r4) q1⟩
/-- for -/
def gFor (gi : GI) (gt : GG) (gb : GS) : GS := fun F δ μ => gi δ μ fun items μ1 => ∃ Iv : Nat → DS → Mu → Prop, Iv 0 δ μ1 ∧
  (∀ i x δ' μ', items[i]? = some x → Iv i δ' μ' → gt x δ' fun δ2 => gb { F with nx := Iv (i + 1), ct := Iv (i + 1), bk := F.nx } δ2 μ') ∧ ∀ δ' μ', Iv items.length δ' μ' → F.nx δ' μ'
theorem ds_for {tg iter : Expr} {gi : GI} {g : TG} {gg : GG} {ow : List Nat} {gb : GS} (hp : PassesOwn (model X.prog X.w) X.A X.env X.xe) (hc : X.calm = true) (hi : DI X tg iter gi) (hg : PG X tg g) (sg : SimG X.K g gg ow) (hb : DSs X body gb)
    (hs : ∀ x, foldedSetIterable iter X.env x = pure x := by intro _; rfl) : DSt X (.For tg iter body [] pos) (gFor gi gg gb) := by
  obtain ⟨ti, i1, i2⟩ := hi.ex
  obtain ⟨tb, b1, b2⟩ := hb.ex
  refine ⟨_, ps_for hp hc i1 hg b1 hs, fun σ H δ μ E F rm rs e q => ?_⟩
  refine i2 σ H δ μ _ _ rm rs q fun J items H1 μ1 k1 rm1 wk ⟨Iv, h0, hstep, hend⟩ => ?_
  refine for_it wk (fun i σ H => ∃ δ μ, Kp H1 μ1 H μ ∧ RM X.K H μ ∧ RepS X.K H μ δ σ ∧ Iv i δ μ) ⟨δ, μ1, Kp.refl _ _, rm1, rs.mono k1, h0⟩ (fun i σ H _ ⟨_, μ, k, rm, _⟩ => ⟨μ, k, rm⟩) ?_ ?_
  · rintro i x σ2 H2 H3 hi ⟨δ2, μ2, k2, rm2, rs2, iv⟩ y
    obtain ⟨d, e1, r1, k3, rm3⟩ := y μ2 k2 rm2
    refine sg x d σ2 H3 δ2 μ2 _ _ rm3 (rs2.mono k3) r1 (hstep i d δ2 μ2 e1 iv) fun σ4 δ4 rs4 q4 _ => ?_
    refine b2 σ4 H3 δ4 μ2 _ _ rm3 rs4 ⟨?_, ?_, ?_, ?_⟩ q4
    · exact fun σ5 H5 δ5 μ5 k5 rm5 rs5 q5 => ⟨δ5, μ5, k2.trans (k3.trans k5), rm5, rs5, q5⟩
    · exact e.rt.re (k1.trans (k2.trans k3))
    · exact fun σ5 H5 δ5 μ5 k5 rm5 rs5 q5 => e.nx σ5 H5 δ5 μ5 (k1.trans (k2.trans (k3.trans k5))) rm5 rs5 q5
    · exact fun σ5 H5 δ5 μ5 k5 rm5 rs5 q5 => ⟨δ5, μ5, k2.trans (k3.trans k5), rm5, rs5, q5⟩
  · rintro σ2 H2 ⟨δ2, μ2, k2, rm2, rs2, iv⟩
    exact e.nx σ2 H2 δ2 μ2 (k1.trans k2) rm2 rs2 (hend δ2 μ2 iv)
/-- what a comprehension asks over its items -/
structure LcB (gt : GG) (gc : GT) (ge : GE) (own : List Nat) (δ : DS) (R : KD) (items : List D) (μ1 : Mu) : Prop where
  ex : ∀ a, μ1 a = none → ∃ Iv : Nat → Mu → Prop, Iv 0 (put μ1 a (.lst [])) ∧
  (∀ i x μ', items[i]? = some x → Iv i μ' → gt x (wiped δ own) fun δ2 => gc δ2 μ' fun b μ2 => if b = true then ge δ2 μ2 fun y μ3 => ∃ acc, μ3 a = some (.lst acc) ∧ acc.length < sizeLine ∧ Iv (i + 1) (put μ3 a (.lst (acc ++ [y]))) else Iv (i + 1) μ2) ∧
  ∀ μ', Iv items.length μ' → ∃ acc, μ' a = some (.lst acc) ∧ R (.lst acc) (del μ' a)
/-- [e for t in it if c] -/
def gLc (gi : GI) (gt : GG) (gc : GT) (ge : GE) (own : List Nat) : GE := fun δ μ R => gi δ μ (LcB gt gc ge own δ R)
theorem sim_lc {K : PySem.W.Frag} {ti : TI} {gi : GI} {g : TG} {gg : GG} {ow : List Nat} {tc : TT} {gc : GT} {te : TE} {ge : GE} {own : List Nat} (hi : SimI K ti gi) (sg : SimG K g gg ow) (ho : ∀ i ∈ ow, i ∈ own) (hc : SimT K tc gc) (he : SimE K te ge) :
    SimE K (tLc ti g tc te own) (gLc gi gg gc ge own) := by
  intro σ H δ μ Q R rm rs q f
  refine hi σ H δ μ _ _ rm rs q fun J items H1 μ1 k1 rm1 wk q1 => ?_
  intro D nD
  obtain ⟨Iv, h0, hstep, hend⟩ := q1.ex D (rm1.free nD)
  have kc : Kp H1 μ1 (upd H1 D (.lst [])) (put μ1 D (.lst [])) := Kp.cell nD
  refine lc_it wk (fun i H => ∃ μ, Kp H1 μ1 H μ ∧ RM K H μ ∧ Iv i μ) ⟨_, kc, rm1.cell nD RepL.nil, h0⟩ (fun i H _ ⟨μ, k, rm, _⟩ => ⟨μ, k, rm⟩) ?_ ?_
  · rintro i x H2 H3 hi2 ⟨μ2, k2, rm2, iv⟩ y
    obtain ⟨d, e1, r1, k3, rm3⟩ := y μ2 k2 rm2
    have rsw : RepS K H3 μ2 (wiped δ own) (L2.wipe σ own) := (rs.mono (k1.trans (k2.trans k3))).wipe own
    refine sg x d _ H3 _ μ2 _ _ rm3 rsw r1 (hstep i d μ2 e1 iv) fun σ4 δ4 rs4 q4 w4 => ⟨(w4 own ho).trans wipe_wipe, ?_⟩
    refine hc σ4 H3 δ4 μ2 _ _ rm3 rs4 q4 fun b H5 μ5 k5 rm5 q5 => ?_
    cases b with
    | false => exact ⟨μ5, k2.trans (k3.trans k5), rm5, q5⟩
    | true =>
      rw [if_pos rfl] at q5 ⊢
      refine he σ4 H5 δ4 μ5 _ _ rm5 (rs4.mono k5) q5 fun v d6 H6 μ6 k6 rm6 r6 q6 => ?_
      obtain ⟨acc, ea, hl, iv6⟩ := q6
      obtain ⟨vs, h1, h2⟩ := rm6 D _ ea
      refine ⟨vs, h1, by rw [h2.length]; exact hl, _, k2.trans (k3.trans (k5.trans (k6.trans (Kp.write ea)))), ?_, iv6⟩
      refine rm6.put (Kp.write ea) (fun a o n _ => upd_ne n) ⟨_, upd_same, ?_⟩
      exact (h2.append (RepL.cons r6 RepL.nil)).mono (Kp.write ea) _ _
  · rintro H2 ⟨μ2, k2, rm2, iv⟩
    obtain ⟨acc, ea, q3⟩ := hend μ2 iv
    obtain ⟨vs, h1, h2⟩ := rm2 D _ ea
    refine f (.ref D) (.lst acc) H2 (del μ2 D) (k1.trans (k2.trans Kp.drop)) rm2.drop ?_ q3
    unfold Rep
    exact ⟨D, vs, rfl, h1, del_same, h2.mono Kp.drop _ _⟩
theorem de_lc {elt tg iter : Expr} {ifs : List Expr} {scope : Scope} {own : List (Str × Nat)} {pos : Pos} {gi : GI} {g : TG} {gg : GG} {ow : List Nat} {gc : GT} {ge : GE} (hc : X.calm = true) (hN : X.N.Nodup) (hi : DI X tg iter gi) (ok : BlkOk X.N X.env.scope scope own)
    (hg : ∀ (s : Shared) (H : Hp) (C : Addr) (cl : List (Str × Addr)) (fp : List Addr), PG (X.blk s H scope (compEnvC scope cl C X.env) fp) tg g) (sg : SimG X.K g gg ow) (ht : ∀ (s : Shared) (H : Hp) (C : Addr) (cl : List (Str × Addr)) (fp : List Addr), DTs (X.blk s H scope (compEnvC scope cl C X.env) fp) ifs gc)
    (he : ∀ (s : Shared) (H : Hp) (C : Addr) (cl : List (Str × Addr)) (fp : List Addr), DE (X.blk s H scope (compEnvC scope cl C X.env) fp) elt ge) (ho : ∀ i ∈ ow, i ∈ own.map (·.2) := by decide) (hs : ∀ x, foldedSetIterable iter X.env x = pure x := by intro _; rfl) :
    DE X (.ListComp elt [⟨tg, iter, ifs, 0⟩] scope pos) (gLc gi gg gc ge (own.map (·.2))) := by
  obtain ⟨ti, i1, i2⟩ := hi.ex
  exact ⟨_, pe_lc hc hN i1 ok hg (fun s H C cl fp => (ht s H C cl fp).pt) (fun s H C cl fp => (he s H C cl fp).pe) hs, sim_lc i2 sg ho simT_of sim_of⟩
theorem ds_setLc {i : Nat} {y : Str} {py : Pos} {elt tg iter : Expr} {ifs : List Expr} {scope : Scope} {own : List (Str × Nat)} {pos spos : Pos} {gi : GI} {g : TG} {gg : GG} {ow : List Nat} {gc : GT} {ge : GE} (hc : X.calm = true) (hN : X.N.Nodup) (hy : X.N[i]? = some y) (hyl : X.env.scope.names.lookup y = some .local)
    (hsw : swapsWith (.ListComp elt [⟨tg, iter, ifs, 0⟩] scope pos) (some (.Name y py)) spos.line X.env = pure true) (hi : DI X tg iter gi) (ok : BlkOk X.N X.env.scope scope own)
    (hg : ∀ (s : Shared) (H : Hp) (C : Addr) (cl : List (Str × Addr)) (fp : List Addr), PG (X.blk s H scope (compEnvC scope cl C X.env) fp) tg g) (sg : SimG X.K g gg ow) (ht : ∀ (s : Shared) (H : Hp) (C : Addr) (cl : List (Str × Addr)) (fp : List Addr), DTs (X.blk s H scope (compEnvC scope cl C X.env) fp) ifs gc)
    (he : ∀ (s : Shared) (H : Hp) (C : Addr) (cl : List (Str × Addr)) (fp : List Addr), DE (X.blk s H scope (compEnvC scope cl C X.env) fp) elt ge) (ho : ∀ i ∈ ow, i ∈ own.map (·.2) := by decide) (hs : ∀ x, foldedSetIterable iter X.env x = pure x := by intro _; rfl) :
    DSt X (.Assign [.Name y py] (.ListComp elt [⟨tg, iter, ifs, 0⟩] scope pos) spos) (gAsg (gLc gi gg gc ge (own.map (·.2))) (gNm i)) := by
  obtain ⟨ti, i1, i2⟩ := hi.ex
  exact ⟨_, ps_setLc hc hN hy hyl hsw i1 ok hg (fun s H C cl fp => (ht s H C cl fp).pt) (fun s H C cl fp => (he s H C cl fp).pe) hs, sim_asg (sim_lc i2 sg ho simT_of sim_of) sim_nm⟩
end
/-! ### defs, calls -/
def toSp (K : PySem.W.Frag) (g : GC) : Sp := fun vs H Q _ => ∃ ds μ R, RM K H μ ∧ RepL K H μ ds vs ∧ g ds μ R ∧ Fw K H μ R Q
theorem repS_some {K : PySem.W.Frag} {H : Hp} {μ : Mu} (n : Nat) : ∀ {ds : List D} {vs : List V}, RepL K H μ ds vs → RepS K H μ (ds.map some ++ List.replicate n none) (vs.map some ++ List.replicate n none)
  | [], _, h => by
    unfold RepL at h
    subst h
    show RepS K H μ (List.replicate n none) (List.replicate n none)
    induction n with
    | zero => simp [RepS]
    | succ n ih =>
      rw [List.replicate_succ, List.replicate_succ]
      unfold RepS
      exact ⟨_, _, rfl, ih⟩
  | d :: ds, _, h => by
    unfold RepL at h
    obtain ⟨v, r, rfl, h1, h2⟩ := h
    show RepS K H μ (some d :: (ds.map some ++ List.replicate n none)) (some v :: (r.map some ++ List.replicate n none))
    unfold RepS
    exact ⟨v, _, rfl, h1, repS_some n h2⟩
section
variable {P : Program} {w : World} {K : PySem.W.Frag} {mg : Str → Option Value} {base : Heap}
theorem okD {x qual : Str} {st : Stmt} {f : Addr} {fd : FuncData} {N ps : List Str} {k : Nat} {g : GC} (F : Fun K x qual st f fd) (S : FnScope N ps (defScope st)) (len : ∀ ds μ R, g ds μ R → ds.length = ps.length)
    (h : ∃ gb : GS, (∀ (cdv : Value) (A : Around) (outer : List Env) (s : Shared) (H : Hp) (E : XK), Room k (A.deeper (envOfC qual (defScope st) s.heap.objs.size f cdv)) →
        DSs (cxOf CX0 P w K mg base N qual (defScope st) f cdv A outer s H E).nox (defBody st) gb) ∧
      ∀ ds μ R, g ds μ R → gb { nx := fun _ μ' => R .non μ', rt := R } (begin_ N ds) μ) : FnOk P w K mg base CX0 (k + 1) f fd ps (toSp K g) := by
  obtain ⟨gb, hb, hg⟩ := h
  refine F.ok S (fun vs H Q E ⟨ds, μ, R, rm, rl, q, fw⟩ => by rw [rl.length]; exact len ds μ R q) fun cdv A outer s H vs Q E hr ⟨ds, μ, R, rm, rl, q, fw⟩ => ?_
  obtain ⟨t, a, b⟩ := (hb cdv A outer s H E hr).ex
  refine ⟨t, a, b _ H (begin_ N ds) μ _ { nx := fun _ μ' => R .non μ', rt := R } rm ?_ ⟨fun σ H' δ μ' k rm' _ q' => fw .non .non H' μ' k rm' (by unfold Rep; rfl) q', fw, fun _ _ _ _ _ _ _ z => z, fun _ _ _ _ _ _ _ z => z⟩ (hg ds μ R q)⟩
  show RepS K H μ (ds.map some ++ List.replicate (N.length - ds.length) none) (vs.map some ++ List.replicate (N.length - vs.length) none)
  rw [rl.length]
  exact repS_some _ rl
end
section
variable {X : Cx} {k : Nat} {f C : Addr} {fd : FuncData} {ps : List Str} {g : GC} {x : Str} {p pos : Pos} {e : Expr} {es : List Expr} {ga gk : GA}
def gCall (g : GC) (ga : GA) : GE := fun δ μ R => ga δ μ fun ds μ1 => g ds μ1 R
theorem de_call (F : FnOk X.prog X.w X.K X.mg X.base CX0 k f fd ps (toSp X.K g)) (hr : Room k X.A) (hg : Gl X x) (hm : X.mg x = some (.ref f)) (hk : PySem.W.keepIn X.K (.ref f) = true) (hb : Binds X.K fd ps [])
    (ha : DA X (e :: es) ga) (hdb : (x == ("__debug__" : Str)) = false := by decide) (he : starEach (e :: es) X.env = (false, eval e X.env) :: starEach es X.env := by rfl) (hpl : (backTo pos (starEach es X.env)).any (·.1) = false := by rfl) :
    DE X (.Call (.Name x p) (e :: es) [] pos) (gCall g ga) := by
  obtain ⟨t, a1, a2⟩ := ha.ex
  refine ⟨_, pe_call F hr hg hm hk hb .nil (pass0 (X := X)) a1 hdb he hpl, fun σ H δ μ Q R rm rs q f => ?_⟩
  refine a2 σ H δ μ _ _ rm rs q fun vs ds H1 μ1 k1 rm1 r1 q1 => ?_
  show toSp X.K g (vs ++ []) H1 Q E0
  rw [List.append_nil]
  exact ⟨ds, μ1, R, rm1, r1, q1, f.re k1⟩
/-- C(..), the new instance frozen behind its __init__ -/
def gMake (C : Addr) (g : GC) (ga : GA) : GE := fun δ μ R => ga δ μ fun ds μ1 => ∀ a, μ1 a = none → g (.adr a :: ds) (put μ1 a (.ins C [])) fun d μ2 => match d with
  | .non => ∃ fs, μ2 a = some (.ins C fs) ∧ R (.ins C fs) (del μ2 a)
  | _ => False
theorem de_make (M : Mk X.K C f) (F : FnOk X.prog X.w X.K X.mg X.base CX0 k f fd ps (toSp X.K g)) (hr : Room (k + 1) X.A) (hg : Gl X x) (hm : X.mg x = some (.ref C)) (hb : Binds X.K fd ps [])
    (ha : DA X (e :: es) ga) (hdb : (x == ("__debug__" : Str)) = false := by decide) (he : starEach (e :: es) X.env = (false, eval e X.env) :: starEach es X.env := by rfl) (hpl : (backTo pos (starEach es X.env)).any (·.1) = false := by rfl) :
    DE X (.Call (.Name x p) (e :: es) [] pos) (gMake C g ga) := by
  obtain ⟨t, a1, a2⟩ := ha.ex
  refine ⟨_, pe_make M F hr hg hm hb .nil (pass0 (X := X)) a1 hdb he hpl, fun σ H δ μ Q R rm rs q f => ?_⟩
  refine a2 σ H δ μ _ _ rm rs q fun vs ds H1 μ1 k1 rm1 r1 q1 => ?_
  intro a dx na nd ne
  have n2 : upd H1 dx (.own a) a = none := by rw [upd_ne (Ne.symm ne)]; exact na
  have rm2 : RM X.K (upd H1 dx (.own a)) μ1 := rm1.laid nd
  have kc : Kp (upd H1 dx (.own a)) μ1 (upd (upd H1 dx (.own a)) a (.ins C dx [])) (put μ1 a (.ins C [])) := Kp.cell n2
  have k2 : Kp H1 μ1 (upd (upd H1 dx (.own a)) a (.ins C dx [])) (put μ1 a (.ins C [])) := (Kp.new nd).trans kc
  have rm3 : RM X.K (upd (upd H1 dx (.own a)) a (.ins C dx [])) (put μ1 a (.ins C [])) := rm2.put kc (fun b o n _ => upd_ne n) ⟨dx, [], upd_same, by unfold RepF; rfl⟩
  show toSp X.K g (V.ref a :: (vs ++ [])) _ _ E0
  rw [List.append_nil]
  refine ⟨.adr a :: ds, _, _, rm3, RepL.cons (by unfold Rep; rfl) (r1.mono k2 _ _), q1 a (rm1.free na), fun v d H4 μ4 k4 rm4 r4 q4 => ?_⟩
  cases d <;> try exact False.elim q4
  obtain ⟨fs, e4, q4⟩ := q4
  obtain ⟨dx4, fv, h1, h2⟩ := rm4 a _ e4
  unfold Rep at r4
  refine ⟨r4, f (.ref a) (.ins C fs) H4 (del μ4 a) (k1.trans (k2.trans (k4.trans Kp.drop))) rm4.drop ?_ q4⟩
  unfold Rep
  exact ⟨a, dx4, fv, rfl, h1, del_same, h2.mono Kp.drop _ _⟩
end
end DL
set_option Elab.async false
set_option linter.all false
set_option maxRecDepth 100000
namespace DL
open PySem PySem.Spec PyProof.Rows L2
section
variable {X : Cx}
theorem OpR.or {f : Value → Value → Sem Value} {r r' : R2} (h : OpR X f r) (h' : OpR X f r') : OpR X f (fun x y H Q => r x y H Q ∨ r' x y H Q) := by
  intro pins s σ H x y v u Q I rx ry q
  rcases q with q | q
  · exact h pins s σ H x y v u Q I rx ry q
  · exact h' pins s σ H x y v u Q I rx ry q
theorem CallR.or {f : Value} {r r' : List V → Hp → VK → Prop} (h : CallR X f r) (h' : CallR X f r') : CallR X f (fun xs H Q => r xs H Q ∨ r' xs H Q) := by
  intro pins s σ H xs us Q I rx q
  rcases q with q | q
  · exact h pins s σ H xs us Q I rx q
  · exact h' pins s σ H xs us Q I rx q
end
section
variable {K : PySem.W.Frag} {H : Hp} {μ : Mu}
theorem rep_int {i : Int} {v : V} (h : Rep K H μ (.int i) v) : v = .int i := by unfold Rep at h; exact h
theorem rep_str {i : Str} {v : V} (h : Rep K H μ (.str i) v) : v = .str i := by unfold Rep at h; exact h
theorem rep_bl {i : Bool} {v : V} (h : Rep K H μ (.bl i) v) : v = .bl i := by unfold Rep at h; exact h
theorem rep_non {v : V} (h : Rep K H μ .non v) : v = .non := by unfold Rep at h; exact h
theorem rep_adr {a : Addr} {v : V} (h : Rep K H μ (.adr a) v) : v = .ref a := by unfold Rep at h; exact h
theorem rep_tup {ds : List D} {v : V} (h : Rep K H μ (.tup ds) v) : ∃ a vs, v = .ref a ∧ ImT K H μ a vs ∧ RepL K H μ ds vs := by unfold Rep at h; exact h
theorem rep_lst {ds : List D} {v : V} (h : Rep K H μ (.lst ds) v) : ∃ a vs, v = .ref a ∧ H a = some (.lst vs) ∧ μ a = none ∧ RepL K H μ ds vs := by unfold Rep at h; exact h
theorem rep_seq {ds : List D} {v : V} (h : Rep K H μ (.seq ds) v) : ∃ a vs, v = .ref a ∧ ImQ K H μ a vs ∧ RepL K H μ ds vs := by unfold Rep at h; exact h
theorem rep_ins {C : Addr} {fs : List (Str × D)} {v : V} (h : Rep K H μ (.ins C fs) v) : ∃ a dx fv, v = .ref a ∧ H a = some (.ins C dx fv) ∧ μ a = none ∧ RepF K H μ fs fv := by unfold Rep at h; exact h
theorem to_int {i : Int} : Rep K H μ (.int i) (.int i) := by unfold Rep; rfl
theorem to_str {i : Str} : Rep K H μ (.str i) (.str i) := by unfold Rep; rfl
theorem to_bl {i : Bool} : Rep K H μ (.bl i) (.bl i) := by unfold Rep; rfl
theorem to_non : Rep K H μ .non .non := by unfold Rep; rfl
theorem to_adr {a : Addr} : Rep K H μ (.adr a) (.ref a) := by unfold Rep; rfl
theorem to_tup {p : Addr} {vs : List V} {ds : List D} (h : H p = some (.tup vs)) (n : μ p = none) (r : RepL K H μ ds vs) : Rep K H μ (.tup ds) (.ref p) := by unfold Rep; exact ⟨p, vs, rfl, .inl ⟨h, n⟩, r⟩
theorem to_lst {p : Addr} {vs : List V} {ds : List D} (h : H p = some (.lst vs)) (n : μ p = none) (r : RepL K H μ ds vs) : Rep K H μ (.lst ds) (.ref p) := by unfold Rep; exact ⟨p, vs, rfl, h, n, r⟩
/-- a new tuple, a new list -/
theorem fw_tup {R : KD} {Q : VK} {p : Addr} {vs : List V} {ds : List D} (rm : RM K H μ) (n : H p = none) (r : RepL K H μ ds vs) (q : R (.tup ds) μ) (f : Fw K H μ R Q) : Q (.ref p) (upd H p (.tup vs)) :=
  f _ _ _ μ (Kp.new n) (rm.laid n) (to_tup upd_same (rm.free n) (r.mono (Kp.new n) _ _)) q
theorem fw_lst {R : KD} {Q : VK} {p : Addr} {vs : List V} {ds : List D} (rm : RM K H μ) (n : H p = none) (r : RepL K H μ ds vs) (q : R (.lst ds) μ) (f : Fw K H μ R Q) : Q (.ref p) (upd H p (.lst vs)) :=
  f _ _ _ μ (Kp.new n) (rm.laid n) (to_lst upd_same (rm.free n) (r.mono (Kp.new n) _ _)) q
theorem fw_cell {R : KD} {Q : VK} {p : Addr} {vs : List V} {ds : List D} (rm : RM K H μ) (n : H p = none) (r : RepL K H μ ds vs) (q : ∀ a, μ a = none → R (.adr a) (put μ a (.lst ds))) (f : Fw K H μ R Q) : Q (.ref p) (upd H p (.lst vs)) :=
  f _ _ _ _ (Kp.cell n) (rm.cell n r) to_adr (q p (rm.free n))
/-- a cell written -/
theorem fw_write {R : KD} {Q : VK} {p : Addr} {vs : List V} {ds es : List D} {d : D} {v : V} (rm : RM K H μ) (e : μ p = some (.lst es)) (r : RepL K H μ ds vs) (rv : Rep K H μ d v) (q : R d (put μ p (.lst ds))) (f : Fw K H μ R Q) : Q v (upd H p (.lst vs)) :=
  f v d _ (put μ p (.lst ds)) (Kp.write e) (rm.put (m := .lst ds) (Kp.write e) (fun a o n _ => upd_ne n) ⟨_, upd_same, r.mono (Kp.write e) _ _⟩) (rv.mono (Kp.write e)) q
theorem fw_now {R : KD} {Q : VK} {d : D} {v : V} (rm : RM K H μ) (rv : Rep K H μ d v) (q : R d μ) (f : Fw K H μ R Q) : Q v H := f _ _ _ _ (Kp.refl _ _) rm rv q
end
/-! ### operators -/
def gPlus : G2 := fun x y μ R => match x, y with
  | .int i, .int j => R (.int (i + j)) μ
  | .str a, .str b => a.length + b.length ≤ sizeLine ∧ R (.str (a ++ b)) μ
  | .tup a, .tup b => a.length + b.length ≤ sizeLine ∧ R (.tup (a ++ b)) μ
  | .lst a, .lst b => a.length + b.length ≤ sizeLine ∧ R (.lst (a ++ b)) μ
  | _, _ => False
def rPlus (K : PySem.W.Frag) : R2 := fun x y H Q => (rI0 fun i j => .int (i + j)) x y H Q ∨ (∃ i j, x = .str i ∧ y = .str j ∧ i.length + j.length ≤ sizeLine ∧ Q (.str (i ++ j)) H) ∨ rCatA K x y H Q ∨ rCat x y H Q
theorem op_plus {X : Cx} : OpR X (binaryOp .Add) (rPlus X.K) := OpR.or op_add (OpR.or op_add_str (OpR.or op_catA op_cat))
theorem sim_plus {K : PySem.W.Frag} : SimO K (rPlus K) gPlus := by
  intro x y dx dy H μ Q R rm rx ry q f
  cases dx <;> cases dy <;> try exact False.elim q
  · rw [rep_int rx, rep_int ry]
    exact .inl ⟨_, _, rfl, rfl, fw_now rm to_int q f⟩
  · rw [rep_str rx, rep_str ry]
    exact .inr (.inl ⟨_, _, rfl, rfl, q.1, fw_now rm to_str q.2 f⟩)
  · rename_i a b
    obtain ⟨p, vs, rfl, i1, l1⟩ := rep_tup rx
    obtain ⟨p2, vs2, rfl, i2, l2⟩ := rep_tup ry
    refine .inr (.inr (.inl ⟨p, p2, vs, vs2, rfl, rfl, i1.sq, i2.sq, by rw [l1.length, l2.length]; exact q.1, fun e => ?_, fun e e2 => ?_, fun _ _ t n => fw_tup rm n (l1.append l2) q.2 f⟩))
    · subst e
      have e0 : a = [] := List.eq_nil_of_length_eq_zero (by rw [← l1.length]; rfl)
      subst e0
      exact fw_now rm ry q.2 f
    · subst e2
      have e0 : b = [] := List.eq_nil_of_length_eq_zero (by rw [← l2.length]; rfl)
      subst e0
      have q2 := q.2
      rw [List.append_nil] at q2
      exact fw_now rm rx q2 f
  · obtain ⟨p, vs, rfl, i1, n1, l1⟩ := rep_lst rx
    obtain ⟨p2, vs2, rfl, i2, n2, l2⟩ := rep_lst ry
    exact .inr (.inr (.inr ⟨p, p2, vs, vs2, rfl, rfl, i1, i2, by rw [l1.length, l2.length]; exact q.1, fun t n => fw_lst rm n (l1.append l2) q.2 f⟩))
/-- two ints -/
def gII (C : Int → Int → Prop) (h : Int → Int → D) : G2 := fun x y μ R => match x, y with
  | .int i, .int j => C i j ∧ R (h i j) μ
  | _, _ => False
def gII0 (h : Int → Int → D) : G2 := fun x y μ R => match x, y with
  | .int i, .int j => R (h i j) μ
  | _, _ => False
theorem sim_II {K : PySem.W.Frag} {C : Int → Int → Prop} {g : Int → Int → V} {h : Int → Int → D} (e : ∀ H μ i j, Rep K H μ (h i j) (g i j)) : SimO K (rI C g) (gII C h) := by
  intro x y dx dy H μ Q R rm rx ry q f
  cases dx <;> cases dy <;> try exact False.elim q
  rw [rep_int rx, rep_int ry]
  exact ⟨_, _, rfl, rfl, q.1, fw_now rm (e _ _ _ _) q.2 f⟩
theorem sim_II0 {K : PySem.W.Frag} {g : Int → Int → V} {h : Int → Int → D} (e : ∀ H μ i j, Rep K H μ (h i j) (g i j)) : SimO K (rI0 g) (gII0 h) := by
  intro x y dx dy H μ Q R rm rx ry q f
  cases dx <;> cases dy <;> try exact False.elim q
  rw [rep_int rx, rep_int ry]
  exact ⟨_, _, rfl, rfl, fw_now rm (e _ _ _ _) q f⟩
abbrev gMinus : G2 := gII0 fun i j => .int (i - j)
abbrev gMul : G2 := gII CMul fun i j => .int (i * j)
abbrev gFdiv : G2 := gII CDivN fun i j => .int (i.fdiv j)
abbrev gMod : G2 := gII (fun _ j => j ≠ 0) fun i j => .int (i.fmod j)
abbrev gPow : G2 := gII CPow fun i j => .int (i ^ j.toNat)
theorem sim_minus {K : PySem.W.Frag} : SimO K (rI0 fun i j => .int (i - j)) gMinus := sim_II0 fun _ _ _ _ => to_int
theorem sim_mul {K : PySem.W.Frag} : SimO K (rI CMul fun i j => .int (i * j)) gMul := sim_II fun _ _ _ _ => to_int
theorem sim_fdiv {K : PySem.W.Frag} : SimO K (rI CDivN fun i j => .int (i.fdiv j)) gFdiv := sim_II fun _ _ _ _ => to_int
theorem sim_mod {K : PySem.W.Frag} : SimO K (rI (fun _ j => j ≠ 0) fun i j => .int (i.fmod j)) gMod := sim_II fun _ _ _ _ => to_int
theorem sim_pow {K : PySem.W.Frag} : SimO K (rI CPow fun i j => .int (i ^ j.toNat)) gPow := sim_II fun _ _ _ _ => to_int
/-- <, <=, >, >= of ints, of texts -/
def gOrd (h : Int → Int → Bool) (k : List Nat → List Nat → Bool) : G2 := fun x y μ R => match x, y with
  | .int i, .int j => R (.bl (h i j)) μ
  | .str a, .str b => R (.bl (k a.cps.toList b.cps.toList)) μ
  | _, _ => False
def rOrd (h : Int → Int → Bool) (k : List Nat → List Nat → Bool) : R2 := fun x y H Q => (rI0 fun i j => .bl (h i j)) x y H Q ∨ ∃ i j, x = .str i ∧ y = .str j ∧ Q (.bl (k i.cps.toList j.cps.toList)) H
theorem sim_ord {K : PySem.W.Frag} {h : Int → Int → Bool} {k : List Nat → List Nat → Bool} : SimO K (rOrd h k) (gOrd h k) := by
  intro x y dx dy H μ Q R rm rx ry q f
  cases dx <;> cases dy <;> try exact False.elim q
  · rw [rep_int rx, rep_int ry]
    exact .inl ⟨_, _, rfl, rfl, fw_now rm to_bl q f⟩
  · rw [rep_str rx, rep_str ry]
    exact .inr ⟨_, _, rfl, rfl, fw_now rm to_bl q f⟩
section
variable {X : Cx}
theorem op_ltA : OpR X (compareOp .Lt) (rOrd (fun i j => decide (i < j)) fun a b => decide (a < b)) := OpR.or op_lt op_lt_str
theorem op_leA : OpR X (compareOp .LtE) (rOrd (fun i j => decide (i ≤ j)) fun a b => !decide (b < a)) := OpR.or op_le op_le_str
theorem op_gtA : OpR X (compareOp .Gt) (rOrd (fun i j => decide (j < i)) fun a b => decide (b < a)) := OpR.or op_gt op_gt_str
theorem op_geA : OpR X (compareOp .GtE) (rOrd (fun i j => decide (j ≤ i)) fun a b => !decide (a < b)) := OpR.or op_ge op_ge_str
end
/-! ### ==, != -/
mutual
def py : D → Option PyData
  | .non => some .none
  | .bl b => some (.bool b)
  | .int i => some (.int i)
  | .str x => some (.str x)
  | .tup ds => (pyL ds).map .tuple
  | .lst ds => (pyL ds).map .list
  | .seq ds => (pyL ds).map .list
  | .ins _ _ => none
  | .adr _ => none
def pyL : List D → Option (List PyData)
  | [] => some []
  | d :: ds => match py d, pyL ds with
    | some a, some b => some (a :: b)
    | _, _ => none
end
section
variable {K : PySem.W.Frag} {H : Hp} {μ : Mu}
mutual
theorem Rep.dp : ∀ (d : D) (v : V) (e : PyData), Rep K H μ d v → py d = some e → Dp K H v e
  | .non, _, _, h, q => by
    rw [rep_non h]
    unfold py at q
    cases q
    exact .non
  | .bl _, _, _, h, q => by
    rw [rep_bl h]
    unfold py at q
    cases q
    exact .bl _
  | .int _, _, _, h, q => by
    rw [rep_int h]
    unfold py at q
    cases q
    exact .int _
  | .str _, _, _, h, q => by
    rw [rep_str h]
    unfold py at q
    cases q
    exact .str _
  | .tup ds, _, _, h, q => by
    obtain ⟨a, vs, rfl, i, r⟩ := rep_tup h
    unfold py at q
    cases e : pyL ds with
    | none => rw [e] at q; cases q
    | some es =>
      rw [e] at q
      cases q
      exact .tup i.sq (RepL.dp ds vs es r e)
  | .lst ds, _, _, h, q => by
    obtain ⟨a, vs, rfl, i, _, r⟩ := rep_lst h
    unfold py at q
    cases e : pyL ds with
    | none => rw [e] at q; cases q
    | some es =>
      rw [e] at q
      cases q
      exact .lst (SqL.of i) (RepL.dp ds vs es r e)
  | .seq ds, _, _, h, q => by
    obtain ⟨a, vs, rfl, i, r⟩ := rep_seq h
    unfold py at q
    cases e : pyL ds with
    | none => rw [e] at q; cases q
    | some es =>
      rw [e] at q
      cases q
      exact .lst i.sq (RepL.dp ds vs es r e)
  | .ins _ _, _, _, h, q => by unfold py at q; cases q
  | .adr _, _, _, h, q => by unfold py at q; cases q
theorem RepL.dp : ∀ (ds : List D) (vs : List V) (es : List PyData), RepL K H μ ds vs → pyL ds = some es → DpAll K H vs es
  | [], _, _, h, q => by
    unfold RepL at h
    unfold pyL at q
    cases q
    rw [h]
    exact .nil
  | d :: ds, _, _, h, q => by
    unfold RepL at h
    obtain ⟨v, r, rfl, h1, h2⟩ := h
    unfold pyL at q
    cases e1 : py d with
    | none => rw [e1] at q; cases q
    | some a =>
      cases e2 : pyL ds with
      | none => rw [e1, e2] at q; cases q
      | some b =>
        rw [e1, e2] at q
        cases q
        exact .cons (Rep.dp d v a h1 e1) (RepL.dp ds r b h2 e2)
end
end
def gEqD (k : Bool → Bool) : G2 := fun x y μ R => ∃ a b, py x = some a ∧ py y = some b ∧ SeqAt.shaped a = true ∧ SeqAt.shaped b = true ∧ R (.bl (k (PyData.eqv a b))) μ
def gEqK (k : Bool → Bool) : G2 := fun x y μ R => match x, y with
  | .int i, .int j => R (.bl (k (decide (i = j)))) μ
  | .str i, .str j => R (.bl (k (decide (i = j)))) μ
  | .bl i, .bl j => R (.bl (k (decide (i = j)))) μ
  | .non, .non => R (.bl (k true)) μ
  | x, y => gEqD k x y μ R
abbrev gEq : G2 := gEqK id
abbrev gNe : G2 := gEqK not
def rEqA (K : PySem.W.Frag) : R2 := fun x y H Q => rEq x y H Q ∨ rEqD K x y H Q
def rNeA (K : PySem.W.Frag) : R2 := fun x y H Q => rNe x y H Q ∨ rNeD K x y H Q
section
variable {X : Cx}
theorem op_eqA (hu : X.A.units + 64 < cLine) : OpR X (compareOp .Eq) (rEqA X.K) := OpR.or op_eq (op_eqD hu)
theorem op_neA (hu : X.A.units + 64 < cLine) : OpR X (compareOp .NotEq) (rNeA X.K) := OpR.or op_ne (op_neD hu)
end
theorem dec_ref {α β : Type} [DecidableEq α] [DecidableEq β] {f : α → β} (inj : ∀ x y, f x = f y → x = y) {i j : α} : decide (f i = f j) = decide (i = j) := by
  by_cases h : i = j
  · subst h; simp
  · rw [decide_eq_false h, decide_eq_false fun e => h (inj _ _ e)]
theorem sim_eqD {K : PySem.W.Frag} {x y : V} {dx dy : D} {H : Hp} {μ : Mu} {Q : VK} {R : KD} (rm : RM K H μ) (rx : Rep K H μ dx x) (ry : Rep K H μ dy y) (q : gEqD id dx dy μ R) (f : Fw K H μ R Q) : rEqA K x y H Q := by
  obtain ⟨a, b, e1, e2, s1, s2, q⟩ := q
  exact .inr ⟨a, b, Rep.dp _ _ _ rx e1, Rep.dp _ _ _ ry e2, s1, s2, fw_now rm to_bl q f⟩
theorem sim_neD {K : PySem.W.Frag} {x y : V} {dx dy : D} {H : Hp} {μ : Mu} {Q : VK} {R : KD} (rm : RM K H μ) (rx : Rep K H μ dx x) (ry : Rep K H μ dy y) (q : gEqD not dx dy μ R) (f : Fw K H μ R Q) : rNeA K x y H Q := by
  obtain ⟨a, b, e1, e2, s1, s2, q⟩ := q
  exact .inr ⟨a, b, Rep.dp _ _ _ rx e1, Rep.dp _ _ _ ry e2, s1, s2, fw_now rm to_bl q f⟩
theorem sim_eq {K : PySem.W.Frag} : SimO K (rEqA K) gEq := by
  intro x y dx dy H μ Q R rm rx ry q f
  cases dx <;> cases dy <;> try exact sim_eqD rm rx ry q f
  · rw [rep_non rx, rep_non ry]
    exact .inl ⟨rfl, fw_now rm to_bl q f⟩
  · rw [rep_bl rx, rep_bl ry]
    refine .inl ⟨rfl, ?_⟩
    rw [dec_ref (f := V.bl) fun _ _ e => V.bl.inj e]
    exact fw_now rm to_bl q f
  · rw [rep_int rx, rep_int ry]
    refine .inl ⟨rfl, ?_⟩
    rw [dec_ref (f := V.int) fun _ _ e => V.int.inj e]
    exact fw_now rm to_bl q f
  · rw [rep_str rx, rep_str ry]
    refine .inl ⟨rfl, ?_⟩
    rw [dec_ref (f := V.str) fun _ _ e => V.str.inj e]
    exact fw_now rm to_bl q f
theorem sim_ne {K : PySem.W.Frag} : SimO K (rNeA K) gNe := by
  intro x y dx dy H μ Q R rm rx ry q f
  cases dx <;> cases dy <;> try exact sim_neD rm rx ry q f
  · rw [rep_non rx, rep_non ry]
    exact .inl ⟨rfl, fw_now rm to_bl q f⟩
  · rw [rep_bl rx, rep_bl ry]
    refine .inl ⟨rfl, ?_⟩
    rw [dec_ref (f := V.bl) fun _ _ e => V.bl.inj e]
    exact fw_now rm to_bl q f
  · rw [rep_int rx, rep_int ry]
    refine .inl ⟨rfl, ?_⟩
    rw [dec_ref (f := V.int) fun _ _ e => V.int.inj e]
    exact fw_now rm to_bl q f
  · rw [rep_str rx, rep_str ry]
    refine .inl ⟨rfl, ?_⟩
    rw [dec_ref (f := V.str) fun _ _ e => V.str.inj e]
    exact fw_now rm to_bl q f
/-- is None, is not None -/
def D.isNon : D → Bool
  | .non => true
  | _ => false
def gIsN (k : Bool → Bool) : G2 := fun x y μ R => match y with
  | .non => R (.bl (k x.isNon)) μ
  | _ => False
theorem isNon_rep {K : PySem.W.Frag} {H : Hp} {μ : Mu} {d : D} {v : V} (h : Rep K H μ d v) : decide (v = .non) = d.isNon := by
  cases d
  · rw [rep_non h]; rfl
  · rw [rep_bl h]; rfl
  · rw [rep_int h]; rfl
  · rw [rep_str h]; rfl
  · obtain ⟨a, vs, rfl, _⟩ := rep_tup h; rfl
  · obtain ⟨a, vs, rfl, _⟩ := rep_lst h; rfl
  · obtain ⟨a, vs, rfl, _⟩ := rep_seq h; rfl
  · obtain ⟨a, dx, vs, rfl, _⟩ := rep_ins h; rfl
  · rw [rep_adr h]; rfl
theorem sim_notN {K : PySem.W.Frag} : SimO K (fun x y H Q => y = .non ∧ Q (.bl (!decide (x = .non))) H) (gIsN not) := by
  intro x y dx dy H μ Q R rm rx ry q f
  cases dy <;> try exact False.elim q
  refine ⟨rep_non ry, ?_⟩
  rw [isNon_rep rx]
  exact fw_now rm to_bl q f
/-! ### in, not in -/
def inDs (x : D) (ds : List D) (R : Bool → Prop) : Prop := (∃ i ns, x = .int i ∧ ds = List.map D.int ns ∧ R (decide (i ∈ ns))) ∨ ∃ i ns, x = .str i ∧ ds = List.map D.str ns ∧ R (decide (i ∈ ns))
def gIn (k : Bool → Bool) : G2 := fun x y μ R => match y with
  | .str z => ∃ c, x = .str ⟨#[c]⟩ ∧ R (.bl (k (decide (c ∈ z.cps.toList)))) μ
  | .tup ds => inDs x ds fun b => R (.bl (k b)) μ
  | .lst ds => inDs x ds fun b => R (.bl (k b)) μ
  | _ => False
theorem inV_int (i : Int) : ∀ ns : List Int, inV (.int i) (ns.map V.int) = decide (i ∈ ns)
  | [] => rfl
  | n :: ns => by
    have ih := inV_int i ns
    unfold inV at ih ⊢
    rw [List.map_cons, List.any_cons, ih]
    show ((n == i) || decide (i ∈ ns)) = decide (i ∈ n :: ns)
    by_cases h : n = i
    · subst h; simp
    · have h' : ¬ i = n := fun e => h e.symm
      simp [h, h']
theorem inV_str (i : Str) : ∀ ns : List Str, inV (.str i) (ns.map V.str) = decide (i ∈ ns)
  | [] => rfl
  | n :: ns => by
    have ih := inV_str i ns
    unfold inV at ih ⊢
    rw [List.map_cons, List.any_cons, ih]
    show ((n == i) || decide (i ∈ ns)) = decide (i ∈ n :: ns)
    by_cases h : n = i
    · subst h; simp
    · have h' : ¬ i = n := fun e => h e.symm
      simp [h, h']
theorem flat_ints (ns : List Int) : (ns.map V.int).all flatV = true := by
  rw [List.all_eq_true]
  intro v hv
  obtain ⟨n, _, rfl⟩ := List.mem_map.mp hv
  rfl
theorem flat_strs (ns : List Str) : (ns.map V.str).all flatV = true := by
  rw [List.all_eq_true]
  intro v hv
  obtain ⟨n, _, rfl⟩ := List.mem_map.mp hv
  rfl
theorem inDs_seq {K : PySem.W.Frag} {x : V} {dx : D} {H : Hp} {μ : Mu} {ds : List D} {vs : List V} {R : Bool → Prop} (rx : Rep K H μ dx x) (l : RepL K H μ ds vs) (q : inDs dx ds R) : flatV x = true ∧ vs.all flatV = true ∧ R (inV x vs) := by
  rcases q with ⟨i, ns, rfl, rfl, q⟩ | ⟨i, ns, rfl, rfl, q⟩
  · rw [rep_int rx, l.ints]
    exact ⟨rfl, flat_ints ns, by rw [inV_int]; exact q⟩
  · rw [rep_str rx, l.strs]
    exact ⟨rfl, flat_strs ns, by rw [inV_str]; exact q⟩
def rInA (K : PySem.W.Frag) : R2 := fun x y H Q => (∃ (c : Nat) (z : Str), x = .str ⟨#[c]⟩ ∧ y = .str z ∧ Q (.bl (decide (c ∈ z.cps.toList))) H) ∨ rIn K false x y H Q
def rNotInA (K : PySem.W.Frag) : R2 := fun x y H Q => (∃ (c : Nat) (z : Str), x = .str ⟨#[c]⟩ ∧ y = .str z ∧ Q (.bl (!decide (c ∈ z.cps.toList))) H) ∨ rIn K true x y H Q
section
variable {X : Cx}
theorem op_inA : OpR X (compareOp .In) (rInA X.K) := OpR.or op_in_sign op_in_seq
theorem op_notInA : OpR X (compareOp .NotIn) (rNotInA X.K) := OpR.or op_notIn_sign op_notIn_seq
end
theorem sim_in {K : PySem.W.Frag} : SimO K (rInA K) (gIn id) := by
  intro x y dx dy H μ Q R rm rx ry q f
  cases dy <;> try exact False.elim q
  · obtain ⟨c, rfl, q⟩ := q
    rw [rep_str rx, rep_str ry]
    exact .inl ⟨c, _, rfl, rfl, fw_now rm to_bl q f⟩
  · obtain ⟨p, vs, rfl, i1, l1⟩ := rep_tup ry
    obtain ⟨a, b, q⟩ := inDs_seq (R := fun b => R (.bl b) μ) rx l1 q
    exact .inr ⟨p, vs, rfl, .inr i1.sq, a, b, fw_now rm to_bl q f⟩
  · obtain ⟨p, vs, rfl, i1, n1, l1⟩ := rep_lst ry
    obtain ⟨a, b, q⟩ := inDs_seq (R := fun b => R (.bl b) μ) rx l1 q
    exact .inr ⟨p, vs, rfl, .inl (SqL.of i1), a, b, fw_now rm to_bl q f⟩
theorem sim_notIn {K : PySem.W.Frag} : SimO K (rNotInA K) (gIn not) := by
  intro x y dx dy H μ Q R rm rx ry q f
  cases dy <;> try exact False.elim q
  · obtain ⟨c, rfl, q⟩ := q
    rw [rep_str rx, rep_str ry]
    exact .inl ⟨c, _, rfl, rfl, fw_now rm to_bl q f⟩
  · obtain ⟨p, vs, rfl, i1, l1⟩ := rep_tup ry
    obtain ⟨a, b, q⟩ := inDs_seq (R := fun b => R (.bl (!b)) μ) rx l1 q
    exact .inr ⟨p, vs, rfl, .inr i1.sq, a, b, fw_now rm to_bl q f⟩
  · obtain ⟨p, vs, rfl, i1, n1, l1⟩ := rep_lst ry
    obtain ⟨a, b, q⟩ := inDs_seq (R := fun b => R (.bl (!b)) μ) rx l1 q
    exact .inr ⟨p, vs, rfl, .inl (SqL.of i1), a, b, fw_now rm to_bl q f⟩
/-! ### subscripts -/
theorem RepL.atI {K : PySem.W.Frag} {H : Hp} {μ : Mu} {ds : List D} {vs : List V} {i : Int} {d : D} (r : RepL K H μ ds vs) (e : L2.atI ds i = some d) : ∃ v, L2.atI vs i = some v ∧ Rep K H μ d v := by
  unfold L2.atI at e ⊢
  rw [r.length]
  cases q : ixN ds.length i with
  | none => rw [q] at e; cases e
  | some j =>
    rw [q] at e
    exact r.at_ (by simpa using e)
def atK (ds : List D) (i : Int) (R : D → Prop) : Prop := match L2.atI ds i with
  | some d => R d
  | none => False
def gIx : G2 := fun x y μ R => match x, y with
  | .lst ds, .int i => atK ds i fun d => R d μ
  | .seq ds, .int i => atK ds i fun d => R d μ
  | .tup ds, .int i => atK ds i fun d => R d μ
  | .adr a, .int i => match μ a with
    | some (.lst ds) => atK ds i fun d => R d μ
    | _ => False
  | .str z, .int i => z.length ≤ sizeLine ∧ match L2.atI z.cps.toList i with
    | some c => R (.str ⟨#[c]⟩) μ
    | none => False
  | _, _ => False
def rIxA (K : PySem.W.Frag) : R2 := fun x y H Q => rIxL K x y H Q ∨ rIxT K x y H Q ∨ rIxS x y H Q
theorem ix_any {X : Cx} : IxR X (rIxA X.K) := ix_list.or (ix_tup.or ix_str)
theorem atK_of {ds : List D} {i : Int} {R : D → Prop} (h : atK ds i R) : ∃ d, L2.atI ds i = some d ∧ R d := by
  unfold atK at h
  cases e : L2.atI ds i with
  | none => rw [e] at h; exact False.elim h
  | some d => rw [e] at h; exact ⟨d, rfl, h⟩
theorem sim_ix {K : PySem.W.Frag} : SimO K (rIxA K) gIx := by
  intro x y dx dy H μ Q R rm rx ry q f
  cases dx <;> cases dy <;> try exact False.elim q
  · rename_i z i
    rw [rep_str rx, rep_int ry]
    obtain ⟨h1, h2⟩ := q
    cases e : L2.atI z.cps.toList i with
    | none => rw [e] at h2; exact False.elim h2
    | some c =>
      rw [e] at h2
      exact .inr (.inr ⟨z, i, c, rfl, rfl, h1, e, fw_now rm to_str h2 f⟩)
  · obtain ⟨p, vs, rfl, i1, l1⟩ := rep_tup rx
    obtain ⟨d, e, q⟩ := atK_of q
    obtain ⟨v, e2, rv⟩ := l1.atI e
    rw [rep_int ry]
    exact .inr (.inl ⟨p, vs, _, v, rfl, rfl, i1.sq, e2, fw_now rm rv q f⟩)
  · obtain ⟨p, vs, rfl, i1, n1, l1⟩ := rep_lst rx
    obtain ⟨d, e, q⟩ := atK_of q
    obtain ⟨v, e2, rv⟩ := l1.atI e
    rw [rep_int ry]
    exact .inl ⟨p, vs, _, v, rfl, rfl, SqL.of i1, e2, fw_now rm rv q f⟩
  · obtain ⟨p, vs, rfl, i1, l1⟩ := rep_seq rx
    obtain ⟨d, e, q⟩ := atK_of q
    obtain ⟨v, e2, rv⟩ := l1.atI e
    rw [rep_int ry]
    exact .inl ⟨p, vs, _, v, rfl, rfl, i1.sq, e2, fw_now rm rv q f⟩
  · rename_i a i
    have q : (match μ a with | some (.lst ds) => atK ds i fun d => R d μ | _ => False) := q
    cases e0 : μ a with
    | none => rw [e0] at q; exact False.elim q
    | some o =>
      rw [e0] at q
      cases o <;> try exact False.elim q
      obtain ⟨vs, h1, l1⟩ := rm a _ e0
      obtain ⟨d, e, q⟩ := atK_of q
      obtain ⟨v, e2, rv⟩ := l1.atI e
      rw [rep_int ry, rep_adr rx]
      exact .inl ⟨a, vs, _, v, rfl, rfl, SqL.of h1, e2, fw_now rm rv q f⟩
end DL
set_option Elab.async false
set_option linter.all false
set_option maxRecDepth 100000
namespace DL
open PySem PySem.Spec PyProof.Rows L2
/-! ### built-ins called by name -/
section
variable {X : Cx} {id : String} {T : String} {r : List V → Hp → VK → Prop} {g : GC} {ga : GA} {x : Str} {p pos : Pos} {e : Expr} {es : List Expr}
theorem sim_cb {K : PySem.W.Frag} {t : TA} (h : SimC K r g) (a : SimA K t ga) : SimE K (tCB r t) (gCall g ga) := fun σ H δ μ Q R rm rs q f =>
  a σ H δ μ _ _ rm rs q fun vs ds H1 μ1 k1 rm1 r1 q1 => h vs ds H1 μ1 Q R rm1 r1 q1 (f.re k1)
theorem de_callB (hc : CallR X (.builtin id) r) (h : SimC X.K r g) (hg : Gl X x) (hm : X.mg x = none) (hv : bootBuiltins x = some (.builtin id)) (ha : DA X (e :: es) ga) (hn : x ≠ "__name__" := by decide) (hdb : (x == ("__debug__" : Str)) = false := by decide)
    (he : starEach (e :: es) X.env = (false, eval e X.env) :: starEach es X.env := by rfl) (hpl : (backTo pos (starEach es X.env)).any (·.1) = false := by rfl) : DE X (.Call (.Name x p) (e :: es) [] pos) (gCall g ga) :=
  let ⟨_, a, b⟩ := ha.ex; ⟨_, pe_callB hc hg hm hv a hn hdb he hpl, sim_cb h b⟩
theorem de_callTy (hc : CallR X (.type T) r) (h : SimC X.K r g) (hg : Gl X x) (hm : X.mg x = none) (hv : bootBuiltins x = some (.type T)) (ha : DA X (e :: es) ga) (hn : x ≠ "__name__" := by decide) (hdb : (x == ("__debug__" : Str)) = false := by decide)
    (he : starEach (e :: es) X.env = (false, eval e X.env) :: starEach es X.env := by rfl) (hpl : (backTo pos (starEach es X.env)).any (·.1) = false := by rfl) : DE X (.Call (.Name x p) (e :: es) [] pos) (gCall g ga) :=
  let ⟨_, a, b⟩ := ha.ex; ⟨_, pe_callTy hc hg hm hv a hn hdb he hpl, sim_cb h b⟩
end
theorem repL1 {K : PySem.W.Frag} {H : Hp} {μ : Mu} {d : D} {vs : List V} (h : RepL K H μ [d] vs) : ∃ v, vs = [v] ∧ Rep K H μ d v := by
  unfold RepL at h
  obtain ⟨v, r, rfl, h1, h2⟩ := h
  unfold RepL at h2
  subst h2
  exact ⟨v, rfl, h1⟩
theorem repL2 {K : PySem.W.Frag} {H : Hp} {μ : Mu} {d e : D} {vs : List V} (h : RepL K H μ [d, e] vs) : ∃ v w, vs = [v, w] ∧ Rep K H μ d v ∧ Rep K H μ e w := by
  unfold RepL at h
  obtain ⟨v, r, rfl, h1, h2⟩ := h
  obtain ⟨w, rfl, h3⟩ := repL1 h2
  exact ⟨v, w, rfl, h1, h3⟩
/-- one argument -/
def g1 (g : G1) : GC := fun ds μ R => match ds with
  | [d] => g d μ R
  | _ => False
def g2 (g : G2) : GC := fun ds μ R => match ds with
  | [d, e] => g d e μ R
  | _ => False
theorem sim_g1 {K : PySem.W.Frag} {r : List V → Hp → VK → Prop} {g : G1} (h : ∀ v d H μ (Q : VK) (R : KD), RM K H μ → Rep K H μ d v → g d μ R → Fw K H μ R Q → r [v] H Q) : SimC K r (g1 g) := by
  intro vs ds H μ Q R rm rl q f
  match ds, rl, q with
  | [d], rl, q =>
    obtain ⟨v, rfl, r1⟩ := repL1 rl
    exact h v d H μ Q R rm r1 q f
theorem sim_g2 {K : PySem.W.Frag} {r : List V → Hp → VK → Prop} {g : G2} (h : ∀ v w d e H μ (Q : VK) (R : KD), RM K H μ → Rep K H μ d v → Rep K H μ e w → g d e μ R → Fw K H μ R Q → r [v, w] H Q) : SimC K r (g2 g) := by
  intro vs ds H μ Q R rm rl q f
  match ds, rl, q with
  | [d, e], rl, q =>
    obtain ⟨v, w, rfl, r1, r2⟩ := repL2 rl
    exact h v w d e H μ Q R rm r1 r2 q f
/-- len -/
def gLen1 : G1 := fun x μ R => match x with
  | .lst ds => R (.int ds.length) μ
  | .seq ds => R (.int ds.length) μ
  | .tup ds => R (.int ds.length) μ
  | .str z => z.length ≤ sizeLine ∧ R (.int z.length) μ
  | .adr a => match μ a with
    | some (.lst ds) => R (.int ds.length) μ
    | _ => False
  | _ => False
def rLenA (K : PySem.W.Frag) : List V → Hp → VK → Prop := fun xs H Q => (∃ p ys, xs = [.ref p] ∧ (SqL K H p ys ∨ SqT K H p ys) ∧ Q (.int ys.length) H) ∨ ∃ z, xs = [.str z] ∧ z.length ≤ sizeLine ∧ Q (.int z.length) H
theorem cr_len {X : Cx} : CallR X (.builtin "len") (rLenA X.K) := CallR.or call_len_seq call_len_str
theorem sim_len {K : PySem.W.Frag} : SimC K (rLenA K) (g1 gLen1) := sim_g1 fun v d H μ Q R rm rv q f => by
  cases d <;> try exact False.elim q
  · rw [rep_str rv]
    exact .inr ⟨_, rfl, q.1, fw_now rm to_int q.2 f⟩
  · obtain ⟨p, vs, rfl, i, l⟩ := rep_tup rv
    exact .inl ⟨p, vs, rfl, .inr i.sq, by rw [l.length]; exact fw_now rm to_int q f⟩
  · obtain ⟨p, vs, rfl, i, _, l⟩ := rep_lst rv
    exact .inl ⟨p, vs, rfl, .inl (SqL.of i), by rw [l.length]; exact fw_now rm to_int q f⟩
  · obtain ⟨p, vs, rfl, i, l⟩ := rep_seq rv
    exact .inl ⟨p, vs, rfl, .inl i.sq, by rw [l.length]; exact fw_now rm to_int q f⟩
  · rename_i a
    have q : (match μ a with | some (.lst ds) => R (.int ds.length) μ | _ => False) := q
    cases e0 : μ a with
    | none => rw [e0] at q; exact False.elim q
    | some o =>
      rw [e0] at q
      cases o <;> try exact False.elim q
      obtain ⟨vs, h1, l⟩ := rm a _ e0
      rw [rep_adr rv]
      exact .inl ⟨a, vs, rfl, .inl (SqL.of h1), by rw [l.length]; exact fw_now rm to_int q f⟩
/-- all, any of a list of bools -/
def gBools (k : List Bool → Bool) : G1 := fun x μ R => match x with
  | .lst ds => ∃ bs, ds = List.map D.bl bs ∧ R (.bl (k bs)) μ
  | _ => False
theorem sim_all {K : PySem.W.Frag} : SimC K (rAll K) (g1 (gBools fun bs => bs.all id)) := sim_g1 fun v d H μ Q R rm rv q f => by
  cases d <;> try exact False.elim q
  obtain ⟨bs, rfl, q⟩ := q
  obtain ⟨p, vs, rfl, i, _, l⟩ := rep_lst rv
  exact ⟨p, bs, rfl, SqL.of (by rw [i, l.bools]), fw_now rm to_bl q f⟩
/-- int(n), abs(n) -/
def gInt1 : G1 := fun x μ R => match x with
  | .int i => R (.int i) μ
  | _ => False
theorem sim_int {K : PySem.W.Frag} : SimC K (fun xs H Q => (∃ i, xs = [.int i] ∧ Q (.int i) H) ∨ ∃ k, xs = [.bl k] ∧ Q (.int (if k then 1 else 0)) H) (g1 gInt1) := sim_g1 fun v d H μ Q R rm rv q f => by
  cases d <;> try exact False.elim q
  rw [rep_int rv]
  exact .inl ⟨_, rfl, fw_now rm to_int q f⟩
def gAbs1 : G1 := fun x μ R => match x with
  | .int i => R (.int (if i < 0 then -i else i)) μ
  | _ => False
theorem sim_abs {K : PySem.W.Frag} : SimC K (fun xs H Q => ∃ i, xs = [.int i] ∧ Q (.int (if i < 0 then -i else i)) H) (g1 gAbs1) := sim_g1 fun v d H μ Q R rm rv q f => by
  cases d <;> try exact False.elim q
  rw [rep_int rv]
  exact ⟨_, rfl, fw_now rm to_int q f⟩
/-- max, min of two ints -/
theorem sim_max2 {K : PySem.W.Frag} : SimC K (fun xs H Q => ∃ i j, xs = [.int i, .int j] ∧ Q (.int (if j > i then j else i)) H) (g2 (gII0 fun i j => .int (if j > i then j else i))) := sim_g2 fun v w d e H μ Q R rm rv rw q f => by
  cases d <;> cases e <;> try exact False.elim q
  rw [rep_int rv, rep_int rw]
  exact ⟨_, _, rfl, fw_now rm to_int q f⟩
theorem sim_min2 {K : PySem.W.Frag} : SimC K (fun xs H Q => ∃ i j, xs = [.int i, .int j] ∧ Q (.int (if j < i then j else i)) H) (g2 (gII0 fun i j => .int (if j < i then j else i))) := sim_g2 fun v w d e H μ Q R rm rv rw q f => by
  cases d <;> cases e <;> try exact False.elim q
  rw [rep_int rv, rep_int rw]
  exact ⟨_, _, rfl, fw_now rm to_int q f⟩
/-- tuple(list), tuple(tuple) -/
def gTuple1 : G1 := fun x μ R => match x with
  | .lst ds => R (.tup ds) μ
  | .seq ds => R (.tup ds) μ
  | .tup ds => R (.tup ds) μ
  | .adr a => match μ a with
    | some (.lst ds) => R (.tup ds) μ
    | _ => False
  | _ => False
theorem sim_tuple {K : PySem.W.Frag} : SimC K (fun xs H Q => ∃ p ys, xs = [.ref p] ∧ ((SqL K H p ys ∧ ∀ l, H l = none → Q (.ref l) (upd H l (.tup ys))) ∨ (SqT K H p ys ∧ Q (.ref p) H))) (g1 gTuple1) := sim_g1 fun v d H μ Q R rm rv q f => by
  cases d <;> try exact False.elim q
  · obtain ⟨p, vs, rfl, i, l⟩ := rep_tup rv
    exact ⟨p, vs, rfl, .inr ⟨i.sq, fw_now rm rv q f⟩⟩
  · obtain ⟨p, vs, rfl, i, _, l⟩ := rep_lst rv
    exact ⟨p, vs, rfl, .inl ⟨SqL.of i, fun t n => fw_tup rm n l q f⟩⟩
  · obtain ⟨p, vs, rfl, i, l⟩ := rep_seq rv
    exact ⟨p, vs, rfl, .inl ⟨i.sq, fun t n => fw_tup rm n l q f⟩⟩
  · rename_i a
    have q : (match μ a with | some (.lst ds) => R (.tup ds) μ | _ => False) := q
    cases e0 : μ a with
    | none => rw [e0] at q; exact False.elim q
    | some o =>
      rw [e0] at q
      cases o <;> try exact False.elim q
      obtain ⟨vs, h1, l⟩ := rm a _ e0
      rw [rep_adr rv]
      exact ⟨a, vs, rfl, .inl ⟨SqL.of h1, fun t n => fw_tup rm n l q f⟩⟩
/-- list(list), list(tuple): a new list; one that will change -/
def gList1 : G1 := fun x μ R => match x with
  | .lst ds => R (.lst ds) μ
  | .seq ds => R (.lst ds) μ
  | .tup ds => R (.lst ds) μ
  | _ => False
abbrev rListOf (K : PySem.W.Frag) : List V → Hp → VK → Prop := fun xs H Q => ∃ p ys, xs = [.ref p] ∧ (SqL K H p ys ∨ SqT K H p ys) ∧ ∀ l, H l = none → Q (.ref l) (upd H l (.lst ys))
theorem sim_list {K : PySem.W.Frag} : SimC K (rListOf K) (g1 gList1) := sim_g1 fun v d H μ Q R rm rv q f => by
  cases d <;> try exact False.elim q
  · obtain ⟨p, vs, rfl, i, l⟩ := rep_tup rv
    exact ⟨p, vs, rfl, .inr i.sq, fun t n => fw_lst rm n l q f⟩
  · obtain ⟨p, vs, rfl, i, _, l⟩ := rep_lst rv
    exact ⟨p, vs, rfl, .inl (SqL.of i), fun t n => fw_lst rm n l q f⟩
  · obtain ⟨p, vs, rfl, i, l⟩ := rep_seq rv
    exact ⟨p, vs, rfl, .inl i.sq, fun t n => fw_lst rm n l q f⟩
/-- sorted of texts -/
def gSortedS1 : G1 := fun x μ R => match x with
  | .lst ds => ∃ ss : List Str, ds = List.map D.str ss ∧ ss.length < 64 ∧ ∀ ys : List Str, ys.Perm ss → sortedS ys = true → R (.lst (List.map D.str ys)) μ
  | .adr a => match μ a with
    | some (.lst ds) => ∃ ss : List Str, ds = List.map D.str ss ∧ ss.length < 64 ∧ ∀ ys : List Str, ys.Perm ss → sortedS ys = true → R (.lst (List.map D.str ys)) μ
    | _ => False
  | _ => False
theorem sim_sortedS {K : PySem.W.Frag} : SimC K (rSortedS K) (g1 gSortedS1) := sim_g1 fun v d H μ Q R rm rv q f => by
  cases d <;> try exact False.elim q
  · obtain ⟨ss, rfl, h64, q⟩ := q
    obtain ⟨p, vs, rfl, i, _, l⟩ := rep_lst rv
    exact ⟨p, ss, rfl, SqL.of (by rw [i, l.strs]), h64, fun ys t hp hs n => fw_lst rm n (RepL.of_strs ys) (q ys hp hs) f⟩
  · rename_i a
    have q : (match μ a with | some (.lst ds) => ∃ ss : List Str, ds = List.map D.str ss ∧ ss.length < 64 ∧ ∀ ys : List Str, ys.Perm ss → sortedS ys = true → R (.lst (List.map D.str ys)) μ | _ => False) := q
    cases e0 : μ a with
    | none => rw [e0] at q; exact False.elim q
    | some o =>
      rw [e0] at q
      cases o <;> try exact False.elim q
      obtain ⟨ss, rfl, h64, q⟩ := q
      obtain ⟨vs, h1, l⟩ := rm a _ e0
      rw [rep_adr rv]
      exact ⟨a, ss, rfl, SqL.of (by rw [h1, l.strs]), h64, fun ys t hp hs n => fw_lst rm n (RepL.of_strs ys) (q ys hp hs) f⟩
/-- isinstance(x, T), T a built-in class written by its name -/
def tyName : D → Option String
  | .non => some "NoneType"
  | .bl _ => some "bool"
  | .int _ => some "int"
  | .str _ => some "str"
  | .tup _ => some "tuple"
  | .lst _ => some "list"
  | _ => none
/-! ### methods -/
abbrev GM := D → List D → Mu → KD → Prop
def gBM (ok : D → Mu → Prop) (g : GM) (go : GE) (ga : GA) : GE := fun δ μ R => go δ μ fun x μ1 => ok x μ1 ∧ ga δ μ1 fun xs μ2 => g x xs μ2 R
def okStr : D → Mu → Prop := fun d _ => match d with
  | .str _ => True
  | _ => False
def okCell : D → Mu → Prop := fun d μ => match d with
  | .adr a => match μ a with
    | some (.lst _) => True
    | _ => False
  | _ => False
def OkTy (K : PySem.W.Frag) (T : String) (ok : D → Mu → Prop) : Prop := ∀ v d H μ, RM K H μ → Rep K H μ d v → ok d μ → tyV K T v H
theorem ok_str {K : PySem.W.Frag} : OkTy K "str" okStr := fun v d H μ rm r h => by
  cases d <;> try exact False.elim h
  rw [rep_str r]
  rfl
theorem ok_cell {K : PySem.W.Frag} : OkTy K "list" okCell := fun v d H μ rm r h => by
  cases d <;> try exact False.elim h
  rename_i a
  have h : (match μ a with | some (.lst _) => True | _ => False) := h
  cases e0 : μ a with
  | none => rw [e0] at h; exact False.elim h
  | some o =>
    rw [e0] at h
    cases o <;> try exact False.elim h
    obtain ⟨vs, h1, l⟩ := rm a _ e0
    rw [rep_adr r]
    exact .inl ⟨rfl, _, SqL.of h1⟩
def SimM (K : PySem.W.Frag) (r : V → List V → Hp → VK → Prop) (g : GM) : Prop := ∀ x dx vs ds H μ (Q : VK) (R : KD), RM K H μ → Rep K H μ dx x → RepL K H μ ds vs → g dx ds μ R → Fw K H μ R Q → r x vs H Q
section
variable {X : Cx} {o e : Expr} {es : List Expr} {name : Str} {apos cpos : Pos} {T id : String} {r : V → List V → Hp → VK → Prop} {ok : D → Mu → Prop} {g : GM} {go : GE} {ga : GA}
theorem de_bm (pa : PlainAttrs T) (slot : Slot T name id) (hty : typeOf (.builtin id) = pure (.type "method_descriptor")) (hm : MtR X id r) (sm : SimM X.K r g) (hok : OkTy X.K T ok) (ho : DE X o go) (ha : DA X (e :: es) ga)
    (hbase : attributeBase o name X.env (eval o X.env) = eval o X.env := by rfl)
    (hfew : ((backTo cpos (starEach (e :: es) X.env)).all (fun x => !x.1) && (backToKw cpos (keywordEach [] X.env)).all (fun x => x.1.isSome)
      && decide ((e :: es).length + ([] : List Keyword).length + (if ([] : List Keyword).isEmpty then 0 else 1) < 30)) = true := by rfl)
    (hline : (apos.endLine == cpos.line) = true := by rfl) (hs : starEach (e :: es) X.env = (false, eval e X.env) :: starEach es X.env := by rfl) (hplain : (backTo cpos (starEach es X.env)).any (·.1) = false := by rfl) :
    DE X (.Call (.Attribute o name apos) (e :: es) [] cpos) (gBM ok g go ga) := by
  obtain ⟨t, a1, a2⟩ := ho.ex
  obtain ⟨u, b1, b2⟩ := ha.ex
  refine ⟨_, pe_bm pa slot hty hm a1 b1 hbase hfew hline hs hplain, fun σ H δ μ Q R rm rs q f => ?_⟩
  refine a2 σ H δ μ _ _ rm rs q fun v d H1 μ1 k1 rm1 r1 q1 => ⟨hok v d H1 μ1 rm1 r1 q1.1, ?_⟩
  exact b2 σ H1 δ μ1 _ _ rm1 (rs.mono k1) q1.2 fun vs ds H2 μ2 k2 rm2 r2 q2 => sm v d vs ds H2 μ2 Q R rm2 (r1.mono k2) r2 q2 (f.re (k1.trans k2))
end
/-- one argument; two -/
def gM1 (g : G2) : GM := fun x xs μ R => match xs with
  | [d] => g x d μ R
  | _ => False
theorem sim_m1 {K : PySem.W.Frag} {r : V → List V → Hp → VK → Prop} {g : G2} (h : ∀ x v dx d H μ (Q : VK) (R : KD), RM K H μ → Rep K H μ dx x → Rep K H μ d v → g dx d μ R → Fw K H μ R Q → r x [v] H Q) : SimM K r (gM1 g) := by
  intro x dx vs ds H μ Q R rm rx rl q f
  match ds, rl, q with
  | [d], rl, q =>
    obtain ⟨v, rfl, r1⟩ := repL1 rl
    exact h x v dx d H μ Q R rm rx r1 q f
/-- two texts -/
def gSS (h : Str → Str → KD → Mu → Prop) : G2 := fun x y μ R => match x, y with
  | .str a, .str b => h a b R μ
  | _, _ => False
/-- text.count(text) -/
abbrev gCount : GM := gM1 (gSS fun a b R μ => R (.int (Txt.count a b)) μ)
theorem sim_count {K : PySem.W.Frag} : SimM K (fun x xs H Q => ∃ a b, x = .str a ∧ xs = [.str b] ∧ Q (.int (Txt.count a b)) H) gCount := sim_m1 fun x v dx d H μ Q R rm rx rv q f => by
  cases dx <;> cases d <;> try exact False.elim q
  rw [rep_str rx, rep_str rv]
  exact ⟨_, _, rfl, rfl, fw_now rm to_int q f⟩
/-- text.index(text) -/
abbrev gIndex : GM := gM1 (gSS fun a b R μ => ∃ i rest, Builtin.Str.occurrences a b 0 a.length 1 = i :: rest ∧ R (.int (i : Nat)) μ)
theorem sim_index {K : PySem.W.Frag} : SimM K (fun x xs H Q => ∃ a b i rest, x = .str a ∧ xs = [.str b] ∧ Builtin.Str.occurrences a b 0 a.length 1 = i :: rest ∧ Q (.int (i : Nat)) H) gIndex := sim_m1 fun x v dx d H μ Q R rm rx rv q f => by
  cases dx <;> cases d <;> try exact False.elim q
  obtain ⟨i, rest, e, q⟩ := q
  rw [rep_str rx, rep_str rv]
  exact ⟨_, _, i, rest, rfl, rfl, e, fw_now rm to_int q f⟩
/-- sep.join(texts) -/
def gJoin2 : G2 := fun x y μ R => match x, y with
  | .str a, .lst ds => ∃ ys : List Str, ds = List.map D.str ys ∧ (ys.map (·.length)).sum + ys.length * a.length ≤ 16777216 ∧ R (.str (Txt.join a ys)) μ
  | _, _ => False
theorem sim_join {K : PySem.W.Frag} : SimM K (fun x xs H Q => ∃ a p, ∃ ys : List Str, x = .str a ∧ xs = [.ref p] ∧ (SqL K H p (ys.map V.str) ∨ SqT K H p (ys.map V.str)) ∧ (ys.map (·.length)).sum + ys.length * a.length ≤ 16777216 ∧ Q (.str (Txt.join a ys)) H) (gM1 gJoin2) := sim_m1 fun x v dx d H μ Q R rm rx rv q f => by
  cases dx <;> cases d <;> try exact False.elim q
  obtain ⟨ys, rfl, hz, q⟩ := q
  obtain ⟨p, vs, rfl, i, _, l⟩ := rep_lst rv
  exact ⟨_, p, ys, rep_str rx, rfl, .inl (SqL.of (by rw [i, l.strs])), hz, fw_now rm to_str q f⟩
/-- cell.append(v) -/
def gAppend2 : G2 := fun x d μ R => match x with
  | .adr a => ∃ ds, μ a = some (.lst ds) ∧ ds.length < sizeLine ∧ R .non (put μ a (.lst (ds ++ [d])))
  | _ => False
theorem sim_append {K : PySem.W.Frag} : SimM K rAppend (gM1 gAppend2) := sim_m1 fun x v dx d H μ Q R rm rx rv q f => by
  cases dx <;> try exact False.elim q
  rename_i a
  obtain ⟨ds, e0, hz, q⟩ := q
  obtain ⟨vs, h1, l⟩ := rm a _ e0
  exact ⟨a, vs, v, rep_adr rx, rfl, h1, by rw [l.length]; exact hz, fw_write rm e0 (l.append (RepL.cons rv RepL.nil)) to_non q f⟩
/-- cell.pop(i), 0 ≤ i in bounds -/
def gPopAt2 : G2 := fun x y μ R => match x, y with
  | .adr a, .int i => ∃ ds, μ a = some (.lst ds) ∧ 0 ≤ i ∧ i < 2 ^ 63 ∧ ∃ d, ds[i.toNat]? = some d ∧ R d (put μ a (.lst (ds.eraseIdx i.toNat)))
  | _, _ => False
theorem sim_popAt {K : PySem.W.Frag} : SimM K rPopAt (gM1 gPopAt2) := sim_m1 fun x v dx d H μ Q R rm rx rv q f => by
  cases dx <;> cases d <;> try exact False.elim q
  rename_i a i
  obtain ⟨ds, e0, h0, hz, d, ed, q⟩ := q
  obtain ⟨vs, h1, l⟩ := rm a _ e0
  obtain ⟨y, ey, ry⟩ := l.at_ ed
  have hl : i.toNat < vs.length := (List.getElem?_eq_some_iff.mp ey).1
  rw [rep_int rv]
  exact ⟨a, vs, i, i.toNat, y, rep_adr rx, rfl, h1, by omega, hz, (ixN_seq (by unfold ixN; rw [if_pos h0, if_pos (by omega)])).1, ey, fw_write rm e0 (l.erase _) ry q f⟩
/-! ### fields -/
theorem RepF.look {K : PySem.W.Frag} {H : Hp} {μ : Mu} {x : Str} {d : D} : ∀ {fs : List (Str × D)} {fv : List (Str × V)}, RepF K H μ fs fv → fs.lookup x = some d → ∃ v, fv.lookup x = some v ∧ Rep K H μ d v
  | [], _, _, e => by cases e
  | (y, c) :: fs, _, h, e => by
    unfold RepF at h
    obtain ⟨v, r, rfl, h1, h2⟩ := h
    rw [List.lookup_cons] at e ⊢
    cases hb : x == y with
    | true =>
      rw [hb] at e
      have e' : c = d := Option.some.inj e
      subst e'
      exact ⟨v, rfl, h1⟩
    | false =>
      rw [hb] at e
      exact RepF.look h2 e
theorem RepF.length {K : PySem.W.Frag} {H : Hp} {μ : Mu} : ∀ {fs : List (Str × D)} {fv : List (Str × V)}, RepF K H μ fs fv → fv.length = fs.length
  | [], _, h => by
    unfold RepF at h
    rw [h] <;> rfl
  | (y, c) :: fs, _, h => by
    unfold RepF at h
    obtain ⟨v, r, rfl, h1, h2⟩ := h
    show r.length + 1 = fs.length + 1
    rw [RepF.length h2]
def dPut (f : Str) (d : D) : List (Str × D) → List (Str × D)
  | [] => [(f, d)]
  | (g, x) :: r => if g = f then (g, d) :: r else (g, x) :: dPut f d r
theorem RepF.put {K : PySem.W.Frag} {H : Hp} {μ : Mu} {x : Str} {d : D} {v : V} (rv : Rep K H μ d v) : ∀ {fs : List (Str × D)} {fv : List (Str × V)}, RepF K H μ fs fv → RepF K H μ (dPut x d fs) (putF x v fv)
  | [], _, h => by
    unfold RepF at h
    subst h
    show RepF K H μ [(x, d)] [(x, v)]
    unfold RepF
    exact ⟨v, [], rfl, rv, by unfold RepF; rfl⟩
  | (y, c) :: fs, _, h => by
    unfold RepF at h
    obtain ⟨u, r, rfl, h1, h2⟩ := h
    show RepF K H μ (if y = x then (y, d) :: fs else (y, c) :: dPut x d fs) (if y = x then (y, v) :: r else (y, u) :: putF x v r)
    by_cases e : y = x
    · rw [if_pos e, if_pos e]
      unfold RepF
      exact ⟨v, r, rfl, rv, h2⟩
    · rw [if_neg e, if_neg e]
      unfold RepF
      exact ⟨u, _, rfl, h1, RepF.put rv h2⟩
/-- o.f of an instance that stays as it is -/
def gFld (C : Addr) (f : Str) (g : GE) : GE := fun δ μ R => g δ μ fun d μ1 => match d with
  | .ins C' fs => C' = C ∧ ∃ x, fs.lookup f = some x ∧ R x μ1
  | _ => False
section
variable {X : Cx} {e o value : Expr} {f : Str} {pos pos' : Pos} {g gv : GE} {C : Addr}
theorem de_fld (c : Cls X.K C) (n : NoAttr X.K C f) (he : DE X e g) (hb : attributeBase e f X.env (eval e X.env) = eval e X.env := by rfl) : DE X (.Attribute e f pos) (gFld C f g) := by
  obtain ⟨t, a1, a2⟩ := he.ex
  refine ⟨_, pe_fld a1 hb, fun σ H δ μ Q R rm rs q fw => ?_⟩
  refine a2 σ H δ μ _ _ rm rs q fun v d H1 μ1 k1 rm1 r1 q1 => ?_
  cases d <;> try exact False.elim q1
  obtain ⟨rfl, x, e1, q1⟩ := q1
  obtain ⟨a, dx, fv, rfl, h1, _, rf⟩ := rep_ins r1
  obtain ⟨y, e2, ry⟩ := rf.look e1
  exact ⟨a, _, dx, fv, y, rfl, h1, c, n, e2, fw_now rm1 ry q1 (fw.re k1)⟩
/-- o.f = e, o an instance in the store -/
def gSetF (C : Addr) (f : Str) (go gv : GE) : GS := fun F δ μ => gv δ μ fun d μ1 => go δ μ1 fun x μ2 => match x with
  | .adr a => ∃ fs, μ2 a = some (.ins C fs) ∧ fs.length < 1000 ∧ F.nx δ (put μ2 a (.ins C (dPut f d fs)))
  | _ => False
theorem ds_fld (c : Cls X.K C) (n : NoAttr X.K C f) (ho : DE X o g) (hv : DE X value gv) (hs : swapsWith value (some (.Attribute o f pos')) pos.line X.env = pure false := by rfl) : DSt X (.Assign [.Attribute o f pos'] value pos) (gSetF C f g gv) := by
  obtain ⟨t, a1, a2⟩ := ho.ex
  obtain ⟨u, b1, b2⟩ := hv.ex
  refine ⟨_, ps_fld a1 b1 hs, fun σ H δ μ E F rm rs e q => ?_⟩
  refine b2 σ H δ μ _ _ rm rs q fun v d H1 μ1 k1 rm1 r1 q1 => ?_
  refine a2 σ H1 δ μ1 _ _ rm1 (rs.mono k1) q1 fun v2 d2 H2 μ2 k2 rm2 r2 q2 => ?_
  cases d2 <;> try exact False.elim q2
  rename_i a
  obtain ⟨fs, e0, hl, q2⟩ := q2
  obtain ⟨dx, fv, h1, rf⟩ := rm2 a _ e0
  have kw : Kp H2 μ2 (upd H2 a (.ins C dx (putF f v fv))) (put μ2 a (.ins C (dPut f d fs))) := Kp.write e0
  refine ⟨a, C, dx, fv, rep_adr r2, h1, c, n, by rw [rf.length]; exact hl, e.nx _ _ _ _ (k1.trans (k2.trans kw)) ?_ (rs.mono (k1.trans (k2.trans kw))) q2⟩
  exact rm2.put (m := .ins C (dPut f d fs)) kw (fun b o nb _ => upd_ne nb) ⟨dx, _, upd_same, (rf.put (r1.mono k2)).mono kw _ _⟩
end
end DL
set_option Elab.async false
set_option linter.all false
set_option maxRecDepth 100000
namespace DL
open PySem PySem.Spec PyProof.Rows L2
/-! ### targets that store into what is mutable -/
abbrev GH := D → DS → Mu → (DS → Mu → Prop) → Prop
abbrev GHs := List D → DS → Mu → (DS → Mu → Prop) → Prop
def SimH (K : PySem.W.Frag) (t : TG) (g : GH) : Prop := ∀ v d σ H δ μ (Q : L2.St → Hp → Prop) (R : DS → Mu → Prop), RM K H μ → RepS K H μ δ σ → Rep K H μ d v → g d δ μ R →
  (∀ σ' H' δ' μ', Kp H μ H' μ' → RM K H' μ' → RepS K H' μ' δ' σ' → R δ' μ' → Q σ' H') → t v σ H Q
def SimHs (K : PySem.W.Frag) (t : TGs) (g : GHs) : Prop := ∀ vs ds σ H δ μ (Q : L2.St → Hp → Prop) (R : DS → Mu → Prop), RM K H μ → RepS K H μ δ σ → RepL K H μ ds vs → g ds δ μ R →
  (∀ σ' H' δ' μ', Kp H μ H' μ' → RM K H' μ' → RepS K H' μ' δ' σ' → R δ' μ' → Q σ' H') → t vs σ H Q
def hNm (i : Nat) : GH := fun d δ μ R => R (δ.set i (some d)) μ
theorem simH_nm {K : PySem.W.Frag} {i : Nat} : SimH K (gName i) (hNm i) := fun v d σ H δ μ Q R rm rs r q f => f _ H _ μ (Kp.refl _ _) rm (rs.set i r) q
def hNil : GHs := fun ds δ μ R => match ds with
  | [] => R δ μ
  | _ :: _ => False
def hCons (t : GH) (u : GHs) : GHs := fun ds δ μ R => match ds with
  | d :: r => t d δ μ fun δ' μ' => u r δ' μ' R
  | [] => False
theorem simH_nil {K : PySem.W.Frag} : SimHs K L2.gNil hNil := by
  intro vs ds σ H δ μ Q R rm rs r q f
  cases ds with
  | nil =>
    unfold RepL at r
    exact ⟨r, f σ H δ μ (Kp.refl _ _) rm rs q⟩
  | cons d ds => exact False.elim q
theorem simH_cons {K : PySem.W.Frag} {t : TG} {u : TGs} {g : GH} {gs : GHs} (h : SimH K t g) (h2 : SimHs K u gs) : SimHs K (L2.gCons t u) (hCons g gs) := by
  intro vs ds σ H δ μ Q R rm rs r q f
  cases ds with
  | nil => exact False.elim q
  | cons d ds =>
    unfold RepL at r
    obtain ⟨v, w, rfl, r1, r2⟩ := r
    refine ⟨v, w, rfl, h v d σ H δ μ _ _ rm rs r1 q fun σ1 H1 δ1 μ1 k1 rm1 rs1 q1 => ?_⟩
    exact h2 w ds σ1 H1 δ1 μ1 _ _ rm1 rs1 (r2.mono k1 _ _) q1 fun σ2 H2 δ2 μ2 k2 rm2 rs2 q2 => f σ2 H2 δ2 μ2 (k1.trans k2) rm2 rs2 q2
def hTup (n : Nat) (t : GHs) : GH := fun d δ μ R => match d with
  | .tup ds => ds.length = n ∧ t ds δ μ R
  | _ => False
theorem simH_tup {K : PySem.W.Frag} {n : Nat} {t : TGs} {g : GHs} (h : SimHs K t g) : SimH K (L2.gTup K n t) (hTup n g) := by
  intro v d σ H δ μ Q R rm rs r q f
  cases d <;> try exact False.elim q
  rename_i ds
  obtain ⟨a, vs, rfl, im, rl⟩ := rep_tup r
  exact ⟨a, vs, rfl, im.sq, by rw [rl.length]; exact q.1, h vs ds σ H δ μ Q R rm rs rl q.2 f⟩
/-- cell[k] = d -/
def setK (x y d : D) (μ : Mu) (R : Mu → Prop) : Prop := match x, y with
  | .adr a, .int k => ∃ ds j, μ a = some (.lst ds) ∧ ixN ds.length k = some j ∧ R (put μ a (.lst (ds.set j d)))
  | _, _ => False
def hSub (go gi : GE) : GH := fun d δ μ R => go δ μ fun x μ1 => gi δ μ1 fun y μ2 => setK x y d μ2 fun μ3 => R δ μ3
theorem simH_sub {K : PySem.W.Frag} {to ti : TE} {go gi : GE} (h1 : SimE K to go) (h2 : SimE K ti gi) : SimH K (gSub to ti rSetL) (hSub go gi) := by
  intro v d σ H δ μ Q R rm rs r q f
  refine h1 σ H δ μ _ _ rm rs q fun x dx H1 μ1 k1 rm1 r1 q1 => ?_
  refine h2 σ H1 δ μ1 _ _ rm1 (rs.mono k1) q1 fun y dy H2 μ2 k2 rm2 r2 q2 => ?_
  cases dx <;> cases dy <;> try exact False.elim q2
  rename_i a k
  obtain ⟨ds, j, e0, ej, q2⟩ := q2
  obtain ⟨vs, e1, l⟩ := rm2 a _ e0
  have kw : Kp H2 μ2 (upd H2 a (.lst (vs.set j v))) (put μ2 a (.lst (ds.set j d))) := Kp.write e0
  refine ⟨a, vs, k, j, rep_adr (r1.mono k2), rep_int r2, e1, by rw [l.length]; exact ej, f _ _ _ _ (k1.trans (k2.trans kw)) ?_ (rs.mono (k1.trans (k2.trans kw))) q2⟩
  exact rm2.put (m := .lst (ds.set j d)) kw (fun b o n _ => upd_ne n) ⟨_, upd_same, (l.set j (r.mono (k1.trans k2))).mono kw _ _⟩
def gAsgH (g : GE) (t : GH) : GS := fun F δ μ => g δ μ fun d μ1 => t d δ μ1 F.nx
section
variable {X : Cx} {e tg o i : Expr} {pos : Pos} {ge go gi : GE} {gh : GH} {g : TG}
theorem pg_subD (ho : DE X o go) (hi : DE X i gi)
    (ha : ∀ v, assign (.Subscript o i pos) X.env v = (do
      let ov ← holding [v] (eval o X.env)
      let iv ← holding [v, ov] (eval i X.env)
      standAt pos
      holding [v, ov, iv] (setItem ov iv v)
      release [v, ov, iv] []) := by intro _; rfl) : PG X (.Subscript o i pos) (gSub (tOf X.K go) (tOf X.K gi) rSetL) := pg_sub ho.pe hi.pe set_list ha
theorem simH_subD {K : PySem.W.Frag} : SimH K (gSub (tOf K go) (tOf K gi) rSetL) (hSub go gi) := simH_sub sim_of sim_of
theorem ds_asgH (he : DE X e ge) (hg : PG X tg g) (sg : SimH X.K g gh) (hs : swapsWithSole [tg] e pos.line X.env = pure false := by rfl) (hw : swappedStores [tg] e X.env = pure none := by rfl)
    (h1 : (assignEach [tg] X.env).map (·.2) = [assign tg X.env] := by rfl) : DSt X (.Assign [tg] e pos) (gAsgH ge gh) := by
  obtain ⟨t1, a1, a2⟩ := he.ex
  refine ⟨_, ps_asg a1 hg hs hw h1, fun σ H δ μ E F rm rs e q => ?_⟩
  refine a2 σ H δ μ _ _ rm rs q fun v d H1 μ1 k1 rm1 r1 q1 => ?_
  exact sg v d σ H1 δ μ1 _ _ rm1 (rs.mono k1) r1 q1 fun σ2 H2 δ2 μ2 k2 rm2 rs2 q2 => e.nx σ2 H2 δ2 μ2 (k1.trans k2) rm2 rs2 q2
end
theorem sim_ipadd {K : PySem.W.Frag} : SimO K (ipI fun i j => i + j) (gII0 fun i j => .int (i + j)) := by
  intro x y dx dy H μ Q R rm rx ry q f
  cases dx <;> cases dy <;> try exact False.elim q
  rw [rep_int rx, rep_int ry]
  exact ⟨_, _, rfl, rfl, fw_now rm to_int q f⟩
/-! ### slices -/
abbrev GP := DS → Mu → (Option Int → Mu → Prop) → Prop
def SimP (K : PySem.W.Frag) (t : TO) (g : GP) : Prop := ∀ σ H δ μ (Q : Option Int → Hp → Prop) (R : Option Int → Mu → Prop), RM K H μ → RepS K H μ δ σ → g δ μ R → (∀ o H' μ', Kp H μ H' μ' → RM K H' μ' → R o μ' → Q o H') → t σ H Q
structure DP (X : Cx) (e : Option Expr) (g : GP) : Prop where
  ex : ∃ t, PO X e t ∧ SimP X.K t g
def gNoP : GP := fun _ μ R => R none μ
def gP (g : GE) : GP := fun δ μ R => g δ μ fun d μ1 => match d with
  | .int i => R (some i) μ1
  | _ => False
def cutD (ds : List D) (lo hi : Option Int) : List D := (ds.drop (HT.sIx ds.length 0 lo)).take (HT.sIx ds.length ds.length hi - HT.sIx ds.length 0 lo)
theorem RepL.cut {K : PySem.W.Frag} {H : Hp} {μ : Mu} {ds : List D} {vs : List V} (h : RepL K H μ ds vs) (lo hi : Option Int) : RepL K H μ (cutD ds lo hi) (cutV vs lo hi) := by
  unfold cutD cutV
  rw [h.length]
  exact (h.drop _).take _
def gSl (ge : GE) (gl gh : GP) : GE := fun δ μ R => ge δ μ fun x μ1 => gl δ μ1 fun lo μ2 => gh δ μ2 fun hi μ3 => match x with
  | .lst ds => R (.lst (cutD ds lo hi)) μ3
  | .seq ds => R (.lst (cutD ds lo hi)) μ3
  | .tup ds => R (.tup (cutD ds lo hi)) μ3
  | .str z => z.length ≤ sizeLine ∧ R (.str (cutS z lo hi)) μ3
  | _ => False
section
variable {X : Cx} {e i : Expr} {lo hi : Option Expr} {pos p2 : Pos} {ge : GE} {gl gh : GP}
theorem dp_none : DP X none gNoP := ⟨_, po_none, fun σ H δ μ Q R rm rs q f => f none H μ (Kp.refl _ _) rm q⟩
theorem dp_some (h : DE X i ge) : DP X (some i) (gP ge) := by
  obtain ⟨t, a1, a2⟩ := h.ex
  refine ⟨_, po_some a1, fun σ H δ μ Q R rm rs q f => ?_⟩
  refine a2 σ H δ μ _ _ rm rs q fun v d H1 μ1 k1 rm1 r1 q1 => ?_
  cases d <;> try exact False.elim q1
  exact ⟨_, rep_int r1, f _ H1 μ1 k1 rm1 q1⟩
def rSlAny (K : PySem.W.Frag) : V → Option Int → Option Int → Hp → VK → Prop := fun x lo hi H Q => rSlL K x lo hi H Q ∨ rSlA K x lo hi H Q ∨ rSlS x lo hi H Q
theorem sl_any : SlR X (rSlAny X.K) := by
  intro pins s σ H x v vl vu lo hi sl Q I rx hs pl pu h
  rcases h with h | h | h
  · exact sl_list pins s σ H x v vl vu lo hi sl Q I rx hs pl pu h
  · exact sl_tupA pins s σ H x v vl vu lo hi sl Q I rx hs pl pu h
  · exact sl_str pins s σ H x v vl vu lo hi sl Q I rx hs pl pu h
theorem cut_all {α : Type} (xs : List α) {a b : Nat} (h : a = 0) (h2 : b = xs.length) : (xs.drop a).take (b - a) = xs := by
  subst h h2
  simp
theorem de_slice (he : DE X e ge) (hl : DP X lo gl) (hu : DP X hi gh) : DE X (.Subscript e (.Slice lo hi none p2) pos) (gSl ge gl gh) := by
  obtain ⟨t, a1, a2⟩ := he.ex
  obtain ⟨u, b1, b2⟩ := hl.ex
  obtain ⟨w, c1, c2⟩ := hu.ex
  refine ⟨_, pe_slice sl_any a1 b1 c1, fun σ H δ μ Q R rm rs q f => ?_⟩
  refine a2 σ H δ μ _ _ rm rs q fun v d H1 μ1 k1 rm1 r1 q1 => ?_
  refine b2 σ H1 δ μ1 _ _ rm1 (rs.mono k1) q1 fun l H2 μ2 k2 rm2 q2 => ?_
  refine c2 σ H2 δ μ2 _ _ rm2 (rs.mono (k1.trans k2)) q2 fun h H3 μ3 k3 rm3 q3 => ?_
  have r3 := r1.mono (k2.trans k3)
  have f3 := f.re (k1.trans (k2.trans k3))
  cases d <;> try exact False.elim q3
  · exact .inr (.inr ⟨_, rep_str r3, q3.1, fw_now rm3 to_str q3.2 f3⟩)
  · rename_i ds
    obtain ⟨p, vs, rfl, im, rl⟩ := rep_tup r3
    refine .inr (.inl ⟨p, vs, rfl, im.sq, fun ⟨z1, z2⟩ => ?_, fun _ t n => fw_tup rm3 n (rl.cut l h) q3 f3⟩)
    rw [rl.length] at z1 z2
    have e : cutD ds l h = ds := cut_all ds z1 z2
    have q4 : R (.tup (cutD ds l h)) μ3 := q3
    rw [e] at q4
    exact fw_now rm3 r3 q4 f3
  · obtain ⟨p, vs, rfl, i, _, rl⟩ := rep_lst r3
    exact .inl ⟨p, vs, rfl, SqL.of i, fun t n => fw_lst rm3 n (rl.cut l h) q3 f3⟩
  · obtain ⟨p, vs, rfl, i, rl⟩ := rep_seq r3
    exact .inl ⟨p, vs, rfl, i.sq, fun t n => fw_lst rm3 n (rl.cut l h) q3 f3⟩
end
/-! ### list(text) -/
def rListS : List V → Hp → VK → Prop := fun xs H Q => ∃ x : Str, xs = [.str x] ∧ x.length ≤ sizeLine ∧ ∀ l, H l = none → Q (.ref l) (upd H l (.lst (x.cps.toList.map fun c => V.str ⟨#[c]⟩)))
theorem signs_vals (x : Str) (acc : Array Value) (h : ItemsOf (SignAt x) acc x.cps.size) : Vals (x.cps.toList.map fun c => V.str ⟨#[c]⟩) acc.toList := by
  have key : ∀ (l : List Nat) (us : List Value), us.length = l.length → (∀ (j : Nat) (v : Value), us[j]? = some v → ∃ (c : Nat) (u : Tok), l[j]? = some c ∧ v = Value.str ⟨#[c]⟩ u) → Vals (l.map fun c => V.str ⟨#[c]⟩) us := by
    intro l
    induction l with
    | nil =>
      intro us hl _
      have e : us = [] := List.eq_nil_of_length_eq_zero hl
      subst e
      exact .nil
    | cons c l ih =>
      intro us hl hs
      cases us with
      | nil => simp at hl
      | cons u us =>
        obtain ⟨c', t, e1, e2⟩ := hs 0 u rfl
        have e1' : c = c' := by simpa using e1
        subst e1'
        subst e2
        exact .cons ⟨t, rfl⟩ (ih us (by simpa using hl) fun j v hv => hs (j + 1) v (by simpa using hv))
  refine key _ _ (by rw [Array.length_toList, Array.length_toList]; exact h.1) fun j v hv => ?_
  obtain ⟨c, u, e1, e2⟩ := h.2 j v (by rw [← Array.getElem?_toList]; exact hv)
  exact ⟨c, u, by rw [Array.getElem?_toList]; exact e1, e2⟩
theorem call_listS {X : Cx} (hc : X.calm = true) : CallR X (.type "list") rListS := by
  intro pins s σ H xs us Q I r h
  obtain ⟨x, rfl, hz, q⟩ := h
  obtain ⟨u, rfl, t, rfl⟩ := vals1 r
  refine call_list_str (I.ok.hd hc) x t (fun h' tk acc c' hk ho hi => ?_) hz
  have hn : H s.heap.objs.size = none := I.hok.fresh (Nat.le_refl _)
  have new : ObjOk X.prog X.w (upd H s.heap.objs.size (.lst (x.cps.toList.map fun c => V.str ⟨#[c]⟩))) h' s.heap.objs.size (.lst (x.cps.toList.map fun c => V.str ⟨#[c]⟩)) :=
    ⟨by rw [List.length_map, Array.length_toList]; exact hz, acc.toList, c', signs_vals x acc hi, ho⟩
  exact ⟨.ref s.heap.objs.size, _, I.laid hk (Nat.le_refl _) new, rfl, q _ hn⟩
theorem signs_rep {K : PySem.W.Frag} {H : Hp} {μ : Mu} (x : Str) : RepL K H μ (signs x) (x.cps.toList.map fun c => V.str ⟨#[c]⟩) := by
  unfold signs
  generalize x.cps.toList = l
  induction l with
  | nil => exact RepL.nil
  | cons c l ih => exact RepL.cons to_str ih
def gListS1 : G1 := fun x μ R => match x with
  | .str z => z.length ≤ sizeLine ∧ R (.lst (signs z)) μ
  | _ => False
def gListSC1 : G1 := fun x μ R => match x with
  | .str z => z.length ≤ sizeLine ∧ ∀ a, μ a = none → R (.adr a) (put μ a (.lst (signs z)))
  | _ => False
theorem sim_listS {K : PySem.W.Frag} : SimC K rListS (g1 gListS1) := sim_g1 fun v d H μ Q R rm rv q f => by
  cases d <;> try exact False.elim q
  exact ⟨_, by rw [rep_str rv], q.1, fun l n => fw_lst rm n (signs_rep _) q.2 f⟩
theorem sim_listSC {K : PySem.W.Frag} : SimC K rListS (g1 gListSC1) := sim_g1 fun v d H μ Q R rm rv q f => by
  cases d <;> try exact False.elim q
  exact ⟨_, by rw [rep_str rv], q.1, fun l n => fw_cell rm n (signs_rep _) q.2 f⟩
/-! ### isinstance -/
theorem tyX_rep {K : PySem.W.Frag} {H : Hp} {μ : Mu} {d : D} {v : V} {n : String} (h : Rep K H μ d v) (e : tyName d = some n) : TyX K H v (.type n) := by
  cases d <;> cases e
  · rw [rep_non h]; exact .base .non
  · rw [rep_bl h]; exact .base (.bl _)
  · rw [rep_int h]; exact .base (.int _)
  · rw [rep_str h]; exact .base (.str _)
  · obtain ⟨a, vs, rfl, im, _⟩ := rep_tup h
    rcases im with ⟨h1, _⟩ | h1
    · exact .base (.tup h1)
    · exact h1.2.elim
  · obtain ⟨a, vs, rfl, i, _⟩ := rep_lst h
    exact .base (.lst i)
def gIsi (T : String) : G1 := fun x μ R => ∃ n b, tyName x = some n ∧ kitB n T = some b ∧ R (.bl b) μ
section
variable {X : Cx} {p p2 pos : Pos} {e : Expr} {g : GE} {nm : Str} {T : String}
/-- isinstance(e, T), T a built-in class by its name -/
theorem de_isi (hg : Gl X "isinstance") (hm : X.mg "isinstance" = none) (hg2 : Gl X nm) (hm2 : X.mg nm = none) (hv : bootBuiltins nm = some (.type T)) (he : DE X e g) (hn : nm ≠ "__name__" := by decide) (hd : (nm == ("__debug__" : Str)) = false := by decide)
    (hs : starEach [e, .Name nm p2] X.env = (false, eval e X.env) :: starEach [.Name nm p2] X.env := by rfl) (hpl : (backTo pos (starEach [.Name nm p2] X.env)).any (·.1) = false := by rfl) (hs2 : starEach [.Name nm p2] X.env = (false, eval (.Name nm p2) X.env) :: starEach [] X.env := by rfl) :
    DE X (.Call (.Name "isinstance" p) [e, .Name nm p2] [] pos) (gUn (gIsi T) g) := by
  obtain ⟨t, a1, a2⟩ := he.ex
  refine ⟨_, pe_callB call_isi hg hm (by decide +kernel) (pa_cons a1 (pa_cons (pe_bltn (v := .ty T) hg2 hm2 hv rfl hn hd) pa_nil hs2) hs) (by decide) (by decide) hs hpl, fun σ H δ μ Q R rm rs q f => ?_⟩
  refine a2 σ H δ μ _ _ rm rs q fun v d H1 μ1 k1 rm1 r1 ⟨n, b, e1, e2, q1⟩ => ?_
  exact ⟨v, .ty T, .type n, .type T, b, rfl, .ty T, tyX_rep r1 e1, kit_ty e2, fw_now rm1 to_bl q1 (f.re k1)⟩
/-- what isinstance asks of an own class -/
structure IsC (K : PySem.W.Frag) (C : Addr) : Prop where
  cl : Cls K C
  ha : PySem.W.findIn K (.ref C) "__class__" = some (some (.builtin "object.__class__"))
  hn : PySem.W.specialIn K (.builtin "object.__class__") "__get__" = some (some (.builtin "getset_descriptor.__get__"))
  ht : PySem.W.takesIn K (.builtin "object.__class__") = some true
  hm : PySem.W.mroIn K C (.type "object") = some true
def gIsC (C : Addr) : G1 := fun x μ R => match x with
  | .ins C' _ => C' = C ∧ R (.bl true) μ
  | _ => False
theorem de_isc {C : Addr} (hc : IsC X.K C) (hg : Gl X "isinstance") (hm : X.mg "isinstance" = none) (hg2 : Gl X nm) (hm2 : X.mg nm = some (.ref C)) (he : DE X e g) (hd : (nm == ("__debug__" : Str)) = false := by decide)
    (hs : starEach [e, .Name nm p2] X.env = (false, eval e X.env) :: starEach [.Name nm p2] X.env := by rfl) (hpl : (backTo pos (starEach [.Name nm p2] X.env)).any (·.1) = false := by rfl) (hs2 : starEach [.Name nm p2] X.env = (false, eval (.Name nm p2) X.env) :: starEach [] X.env := by rfl) :
    DE X (.Call (.Name "isinstance" p) [e, .Name nm p2] [] pos) (gUn (gIsC C) g) := by
  obtain ⟨t, a1, a2⟩ := he.ex
  refine ⟨_, pe_callB call_isi hg hm (by decide +kernel) (pa_cons a1 (pa_cons (pe_glob (v := .ref C) hg2 hm2 rfl hd) pa_nil hs2) hs) (by decide) (by decide) hs hpl, fun σ H δ μ Q R rm rs q f => ?_⟩
  refine a2 σ H δ μ _ _ rm rs q fun v d H1 μ1 k1 rm1 r1 q1 => ?_
  cases d <;> try exact False.elim q1
  obtain ⟨rfl, q1⟩ := q1
  obtain ⟨a, dx, fv, rfl, h1, _, _⟩ := rep_ins r1
  refine ⟨.ref a, .ref _, .ref _, .ref _, true, rfl, .own _, .base (.ins h1 hc.cl hc.ha hc.hn hc.ht hc.hm), ?_, fw_now rm1 to_bl q1 (f.re k1)⟩
  unfold PySem.W.kitOne
  rw [if_pos (beq_self_eq_true _)]
end
end DL
set_option Elab.async false
set_option linter.all false
set_option maxRecDepth 100000
namespace DL
open PySem PySem.Spec PyProof.Rows L2
/-! ### max, min of two texts: which object comes back -/
section
variable {prog : Program} {w : World} {A : Around} {E : Value → Shared → Prop} {s : Shared}
theorem cmpS_gt {P : Nat → Value → Prop} (val : Nat → Str) (hv : ∀ i v, P i v → ∃ t, v = .str (val i) t) : CmpOf prog w A .Gt P (fun i j => decide ((val j).cps.toList < (val i).cps.toList)) := fun i j vi vj s Q E hi hj h => by
  obtain ⟨t, rfl⟩ := hv i vi hi
  obtain ⟨u, rfl⟩ := hv j vj hj
  exact richCompare_gives (op := .Gt) (typeIs_str s _ t) (typeIs_str s _ u) F.slot_str_gt F.entry_str_gt (F.args_str_gt_2 _ _) (gives_str_gt _ _ t u) (fun x => nomatch x) h
theorem cmpS_lt {P : Nat → Value → Prop} (val : Nat → Str) (hv : ∀ i v, P i v → ∃ t, v = .str (val i) t) : CmpOf prog w A .Lt P (fun i j => decide ((val i).cps.toList < (val j).cps.toList)) := fun i j vi vj s Q E hi hj h => by
  obtain ⟨t, rfl⟩ := hv i vi hi
  obtain ⟨u, rfl⟩ := hv j vj hj
  exact richCompare_gives (op := .Lt) (typeIs_str s _ t) (typeIs_str s _ u) F.slot_str_lt F.entry_str_lt (F.args_str_lt_2 _ _) (gives_str_lt _ _ t u) (fun x => nomatch x) h
theorem two_at {a b v : Value} {bt : Nat → Nat → Bool} (h : (#[a, b] : Array Value)[argBest bt ((#[a, b] : Array Value).size - 1)]? = some v) : v = if bt 1 0 = true then b else a := by
  have e : (#[a, b] : Array Value).size - 1 = 1 := rfl
  rw [e] at h
  cases hb : bt 1 0 with
  | true =>
    have e1 : argBest bt 1 = 1 := by simp [argBest, hb]
    rw [e1] at h
    simpa using h.symm
  | false =>
    have e1 : argBest bt 1 = 0 := by simp [argBest, hb]
    rw [e1] at h
    simpa using h.symm
theorem pair_val {x y : Str} {t u : Tok} : ∀ (i : Nat) (v : Value), (#[.str x t, .str y u] : Array Value)[i]? = some v → ∃ k, v = .str (if i = 0 then x else y) k
  | 0, v, h => ⟨t, by simpa using h.symm⟩
  | 1, v, h => ⟨u, by simpa using h.symm⟩
  | i + 2, v, h => by simp at h
theorem max_strs {x y : Str} {t u : Tok} {Q : Value → Shared → Prop} (hh : A.handled = none)
    (h : ∀ h' tk, (∀ c o, s.heap.get? c = some o → h'.get? c = some o) → Q (if x.cps.toList < y.cps.toList then .str y u else .str x t) { s with heap := h', toks := tk }) :
    wpAny (model prog w) A (call (.builtin "max") [.str x t, .str y u]) Q E s := by
  have hT : (s.heap.push { cls := .type "tuple", data := .seq #[.str x t, .str y u] }).IsTuple s.heap.objs.size #[.str x t, .str y u] := ⟨_, Heap.get?_push_size _ rfl, rfl, 0, rfl⟩
  have sz : (s.heap.push { cls := .type "tuple", data := .seq #[.str x t, .str y u] }).objs.size = s.heap.objs.size + 1 := Heap.size_push ..
  refine call_max_two (wpAny_pyIter_tuple hT ?_)
  refine ⟨_, [_, s.heap.objs.size], [_], _, _, _, _, rfl, Walks.tuple (A := A.in1) hh _ s.heap.objs.size (by rw [sz]; exact Nat.ne_of_lt (Nat.lt_succ_self _)) #[.str x t, .str y u],
    ⟨⟨_, Heap.get?_push_size _ rfl, rfl, rfl⟩, hT.push _⟩, fun c hc => ?_, (by decide : 0 < 2), cmpS_gt (fun i => if i = 0 then x else y) pair_val, fun v h' tk hP hk => ?_⟩
  · show c < ((s.heap.push _).push _).objs.size
    rw [Heap.size_push, sz]
    have hc' : c = (s.heap.push { cls := .type "tuple", data := .seq #[.str x t, .str y u] }).objs.size ∨ c = s.heap.objs.size := by simpa using hc
    rcases hc' with e | e
    · rw [e, sz]; exact Nat.lt_succ_self _
    · rw [e]; exact Nat.lt_succ_of_lt (Nat.lt_succ_self _)
  · have old : ∀ c o, s.heap.get? c = some o → h'.get? c = some o := fun c o e => hk c o (fun hm => by
      have e1 : c = (s.heap.push { cls := .type "tuple", data := .seq #[.str x t, .str y u] }).objs.size := by simpa using hm
      have lt := Heap.lt_size e
      rw [e1, sz] at lt
      exact Nat.lt_irrefl _ (Nat.lt_of_succ_lt lt)) (Heap.get?_push_of_some _ (Heap.get?_push_of_some _ e))
    have q := h h' tk old
    have e := two_at (bt := fun i j => decide ((if j = 0 then x else y).cps.toList < (if i = 0 then x else y).cps.toList)) hP
    have e2 : v = if x.cps.toList < y.cps.toList then .str y u else .str x t := by
      rw [e]
      simp
    rw [e2]
    exact q
theorem min_strs {x y : Str} {t u : Tok} {Q : Value → Shared → Prop} (hh : A.handled = none)
    (h : ∀ h' tk, (∀ c o, s.heap.get? c = some o → h'.get? c = some o) → Q (if y.cps.toList < x.cps.toList then .str y u else .str x t) { s with heap := h', toks := tk }) :
    wpAny (model prog w) A (call (.builtin "min") [.str x t, .str y u]) Q E s := by
  have hT : (s.heap.push { cls := .type "tuple", data := .seq #[.str x t, .str y u] }).IsTuple s.heap.objs.size #[.str x t, .str y u] := ⟨_, Heap.get?_push_size _ rfl, rfl, 0, rfl⟩
  have sz : (s.heap.push { cls := .type "tuple", data := .seq #[.str x t, .str y u] }).objs.size = s.heap.objs.size + 1 := Heap.size_push ..
  refine call_min_two (wpAny_pyIter_tuple hT ?_)
  refine ⟨_, [_, s.heap.objs.size], [_], _, _, _, _, rfl, Walks.tuple (A := A.in1) hh _ s.heap.objs.size (by rw [sz]; exact Nat.ne_of_lt (Nat.lt_succ_self _)) #[.str x t, .str y u],
    ⟨⟨_, Heap.get?_push_size _ rfl, rfl, rfl⟩, hT.push _⟩, fun c hc => ?_, (by decide : 0 < 2), cmpS_lt (fun i => if i = 0 then x else y) pair_val, fun v h' tk hP hk => ?_⟩
  · show c < ((s.heap.push _).push _).objs.size
    rw [Heap.size_push, sz]
    have hc' : c = (s.heap.push { cls := .type "tuple", data := .seq #[.str x t, .str y u] }).objs.size ∨ c = s.heap.objs.size := by simpa using hc
    rcases hc' with e | e
    · rw [e, sz]; exact Nat.lt_succ_self _
    · rw [e]; exact Nat.lt_succ_of_lt (Nat.lt_succ_self _)
  · have old : ∀ c o, s.heap.get? c = some o → h'.get? c = some o := fun c o e => hk c o (fun hm => by
      have e1 : c = (s.heap.push { cls := .type "tuple", data := .seq #[.str x t, .str y u] }).objs.size := by simpa using hm
      have lt := Heap.lt_size e
      rw [e1, sz] at lt
      exact Nat.lt_irrefl _ (Nat.lt_of_succ_lt lt)) (Heap.get?_push_of_some _ (Heap.get?_push_of_some _ e))
    have q := h h' tk old
    have e := two_at (bt := fun i j => decide ((if i = 0 then x else y).cps.toList < (if j = 0 then x else y).cps.toList)) hP
    have e2 : v = if y.cps.toList < x.cps.toList then .str y u else .str x t := by
      rw [e]
      simp
    rw [e2]
    exact q
/-! ### text.replace(x, x), one object twice -/
open Builtin Builtin.Str
theorem gives_replace_same (x y : Str) (t u : Tok) (hu : u ≠ 0) : Gives (Builtin.«str.replace» ⟨[.str x t, .str y u, .str y u], []⟩) (.val (.str x t)) := by
  show Gives (if ((occurrences x y 0 x.length (x.length + 1)).isEmpty || (y.length == 0 && y.length == 0)) = true then (do rule "str.replace.nothing"; ret (.str x t)) else
          (do let same ← isSame (.str y u) (.str y u)
              if same = true then (do rule "str.replace.old-is-new"; ret (.str x t)) else
              if tooLong (x.length + (occurrences x y 0 x.length (x.length + 1)).length * y.length) = true then unsupported "str.replace:memory" else
              retStr (glued y (partsBetween x (occurrences x y 0 x.length (x.length + 1)) y.length)))) _
  have e : isSame (.str y u) (.str y u) = pure true := by
    show (if (u == 0 || u == 0) = true then _ else if (u == u) = true then pure true else _ : Sem Bool) = _
    have h0 : (u == 0 || u == 0) = false := by simp [hu]
    rw [h0, if_neg Bool.false_ne_true, if_pos (beq_self_eq_true u)]
  cases hc : ((occurrences x y 0 x.length (x.length + 1)).isEmpty || (y.length == 0 && y.length == 0))
  · rw [e]
    exact .rule (.of_eq rfl)
  · exact .rule (.of_eq rfl)
theorem call_replace_same {x y : Str} {t u : Tok} {Q : Value → Shared → Prop} (hu : u ≠ 0) (hq : Q (.str x t) s) : wpAny (model prog w) A (call (.builtin "str.replace") [.str x t, .str y u, .str y u]) Q E s :=
  call_gives F.slot_str_replace (typeIs_str _ _ _) F.entry_str_replace (F.args_str_replace_3 _ _ _) (gives_replace_same x y t u hu) hq
end
end DL
set_option Elab.async false
set_option linter.all false
set_option maxRecDepth 100000
namespace DL
open PySem PySem.Spec PyProof.Rows L2
section
variable {X : Cx} {pins : List (Addr × Obj)} {σ : L2.St} {H : Hp} {s : Shared} {E : Value → Shared → Prop}
/-- a local name stored; the frame's map told -/
theorem store_at {M : Model} {A : Around} {i : Nat} {x : Str} {v : V} {u : Value} {m : Str → Option Value} {Q : Unit → Shared → Prop} (I : Inv X pins σ H s) (hN : X.N.Nodup) (hi : X.N[i]? = some x) (hk : X.env.scope.names.lookup x = some .local) (r : RelV v u)
    (hn : s.heap.Ns X.env.locals m) (h : ∀ s', Inv X pins (σ.set i (some v)) H s' → s'.heap.Ns X.env.locals (fun y => if y = x then some u else m y) → s.toks ≤ s'.toks → Q () s') : wpAny M A (storeName X.env x u) Q E s := by
  obtain ⟨m0, hn0, hl⟩ := id I.loc
  obtain ⟨oL, esL, epL, hoL, hdL, hfL⟩ := id hn
  have hiσ : i < σ.length := by rw [I.len]; exact (List.getElem?_eq_some_iff.mp hi).1
  have hm0 : m0 = m := by
    obtain ⟨o2, es2, ep2, ho2, hd2, _, hf2⟩ := hn0
    rw [hoL] at ho2
    cases ho2
    rw [hdL] at hd2
    cases hd2
    exact funext fun y => (hf2 y).symm.trans (hfL.2 y)
  subst hm0
  refine wpAny_storeName_local hk hn (fun h' hn' hs => ?_) (by rw [I.ok.kind]; rfl)
  have old : ∀ b o, X.s_0.heap.get? b = some o → b ≠ X.env.locals := fun b o e => Nat.ne_of_lt (Nat.lt_of_lt_of_le (Heap.lt_size e) I.ok.above)
  have other : ∀ b, b ≠ X.env.locals → h'.get? b = s.heap.get? b := fun b hb => hs.2 b hb
  refine h { s with heap := h', toks := s.toks + 1 } ?_ hn' (Nat.le_succ _)
  refine ⟨I.ok, I.os, I.bare, ⟨?_, ?_, I.base.free, ?_, I.base.tups, I.base.frzs, I.base.tbls⟩, ⟨_, hn', ?_⟩, ?_, I.free, I.freeC, ?_, ?_, by simpa using I.len⟩
  · intro b o e n hb hx
    exact (other b (old b o e)).trans (I.base.keep b o e n hb hx)
  · intro b o e n hb hx
    obtain ⟨sl, e1⟩ := I.base.slot b o e n hb hx
    exact ⟨sl, (other b (old b o e)).trans e1⟩
  · intro b o e hx
    obtain ⟨o', e1⟩ := I.base.there b o e hx
    exact ⟨o', (other b (old b o e)).trans e1⟩
  · intro j y v' e1 e2 e3
    by_cases hj : j = i
    · subst hj
      rw [hi] at e1
      cases e1
      rw [List.getElem?_set_self hiσ] at e2
      cases e2
      exact ⟨u, r, .inl ⟨hk, by simp⟩⟩
    · rw [List.getElem?_set_ne (Ne.symm hj)] at e2
      obtain ⟨u', r', q⟩ := hl j y v' e1 e2 e3
      refine ⟨u', r', ?_⟩
      rcases q with ⟨k, e⟩ | ⟨k, c, e, z⟩
      · have ne : y ≠ x := fun e' => hj (nodup_ix hN e1 (e' ▸ hi))
        exact .inl ⟨k, by simp [ne, e]⟩
      · exact .inr ⟨k, c, e, z.sameBut hs (I.cne y c e)⟩
  · intro y c e
    obtain ⟨w', z⟩ := I.cell y c e
    exact ⟨w', z.sameBut hs (I.cne y c e)⟩
  · intro p hp
    obtain ⟨e, n, ne, nf, d⟩ := I.pin p hp
    exact ⟨(other p.1 ne).trans e, n, ne, nf, d⟩
  · intro b ob e
    refine (I.hok b ob e).stay (fun c w' hc q => (other c ?_).trans q) (fun _ q => q) fun _ _ q => q
    rintro rfl
    rcases hc with rfl | hc
    · rw [I.free] at e; cases e
    · rw [I.free] at hc; cases hc
/-- o.f, tokens alone are used -/
theorem quiet_fld {i : Nat} {x f : Str} {p pos : Pos} {a C dx : Addr} {fs : List (Str × V)} {v : V} {Q : Value → Shared → Prop} (hN : X.N[i]? = some x) (hv : Vis X.env.scope x) (I : Inv X pins σ H s) (hσ : σ[i]? = some (some (.ref a)))
    (e : H a = some (.ins C dx fs)) (c : Cls X.K C) (n : NoAttr X.K C f) (l : fs.lookup f = some v) (hb : attributeBase (.Name x p) f X.env (eval (.Name x p) X.env) = eval (.Name x p) X.env)
    (hd : (x == ("__debug__" : Str)) = false) (hcd : (x == ("__classdict__" : Str)) = false)
    (fin : ∀ u k, s.toks ≤ k → RelV v u → Q u { s with toks := k }) : wpAny (model X.prog X.w) X.A (eval (.Attribute (.Name x p) f pos) X.env) Q E s := by
  refine attr_of hb (raw_name hN hv I hσ (fun u r => ?_) hd hcd)
  have e1 : u = Value.ref a := r
  subst e1
  obtain ⟨mA, O, r2, _⟩ := ins_get I.hok e
  obtain ⟨u, hu, ru⟩ := RelO.some_of (v := v) (o := mA f) (by rw [← l]; exact r2 f)
  exact get_map I.kIn O (c.get f) c.hd n hu (handed_of ru) (fin u _ (Nat.le_succ _) ru)
/-- x[k] of a text at a written place -/
theorem quiet_sub {i : Nat} {x : Str} {k : Int} {j : Nat} {cp p1 pos : Pos} {z : Str} {c : Nat} {Q : Value → Shared → Prop} (hN : X.N[i]? = some x) (hv : Vis X.env.scope x) (I : Inv X pins σ H s) (hσ : σ[i]? = some (some (.str z)))
    (h0 : 0 ≤ k) (h63 : k < 2 ^ 63) (hk : k.toNat < z.length) (hc : z.cps[k.toNat]? = some c) (hs : PlainIx (.Constant (.int k) j cp)) (hd : (x == ("__debug__" : Str)) = false) (hcd : (x == ("__classdict__" : Str)) = false)
    (fin : ∀ t m, s.toks ≤ m → Q (.str ⟨#[c]⟩ t) { s with toks := m + 1 }) : wpAny (model X.prog X.w) X.A (eval (.Subscript (.Name x p1) (.Constant (.int k) j cp) pos) X.env) Q E s := by
  refine Subscript_ (raw_name hN hv I hσ (fun v r => ?_) hd hcd)
  obtain ⟨t, rfl⟩ := r
  refine wpAny_Constant_int ?_
  refine tail_any (typeIs_str _ z t) slot_str_getitem.lookup (P.getItem_str (c := c) ?_ ?_ (fin _ _ (Nat.le_succ _))) (hs _ _)
  · have e1 : decide (k < -(2 ^ 63 : Int)) = false := decide_eq_false (by omega)
    have e2 : decide (k ≥ 2 ^ 63) = false := decide_eq_false (by omega)
    rw [e1, e2, Bool.or_false]
  · rw [seqIndex_of h0 (by omega)]
    exact hc
/-- row[o.f.index(x[k])] -/
theorem quiet_item {ir iw it : Nat} {xr xw xt f : Str} {p1 p2 p3 p4 p5 p6 p7 p8 cp : Pos} {k : Int} {j : Nat} {r z y : Str} {c d n0 : Nat} {rest : List Nat} {a C dx : Addr} {fs : List (Str × V)} {Q : Value → Shared → Prop}
    (hNr : X.N[ir]? = some xr) (hvr : Vis X.env.scope xr) (hNw : X.N[iw]? = some xw) (hvw : Vis X.env.scope xw) (hNt : X.N[it]? = some xt) (hvt : Vis X.env.scope xt) (I : Inv X pins σ H s)
    (hr : σ[ir]? = some (some (.str r))) (hw : σ[iw]? = some (some (.ref a))) (ht : σ[it]? = some (some (.str y)))
    (e : H a = some (.ins C dx fs)) (cl : Cls X.K C) (na : NoAttr X.K C f) (l : fs.lookup f = some (.str z)) (h0 : 0 ≤ k) (h63 : k < 2 ^ 63) (hk : k.toNat < y.length) (hc : y.cps[k.toNat]? = some c)
    (ho : Builtin.Str.occurrences z ⟨#[c]⟩ 0 z.length 1 = n0 :: rest) (hl : r.length < 2 ^ 62) (hn : r.cps[n0]? = some d)
    (hb : attributeBase (.Name xw p2) f X.env (eval (.Name xw p2) X.env) = eval (.Name xw p2) X.env := by rfl)
    (hb2 : attributeBase (.Attribute (.Name xw p2) f p3) "index" X.env (eval (.Attribute (.Name xw p2) f p3) X.env) = eval (.Attribute (.Name xw p2) f p3) X.env := by rfl)
    (hfew : ((backTo p7 (starEach [.Subscript (.Name xt p5) (.Constant (.int k) j cp) p6] X.env)).all (fun x => !x.1) && (backToKw p7 (keywordEach [] X.env)).all (fun x => x.1.isSome)
      && decide (([.Subscript (.Name xt p5) (.Constant (.int k) j cp) p6] : List Expr).length + ([] : List Keyword).length + (if ([] : List Keyword).isEmpty then 0 else 1) < 30)) = true := by rfl)
    (hline : (p4.endLine == p7.line) = true := by rfl) (htr : backTo p7 (starEach [.Subscript (.Name xt p5) (.Constant (.int k) j cp) p6] X.env) = [(false, eval (.Subscript (.Name xt p5) (.Constant (.int k) j cp) p6) X.env)] := by rfl)
    (hs : PlainIx (.Constant (.int k) j cp) := by exact fun _ _ => rfl) (hs2 : PlainIx (.Call (.Attribute (.Attribute (.Name xw p2) f p3) "index" p4) [.Subscript (.Name xt p5) (.Constant (.int k) j cp) p6] [] p7) := by exact fun _ _ => rfl)
    (hdr : (xr == ("__debug__" : Str)) = false := by decide) (hcr : (xr == ("__classdict__" : Str)) = false := by decide) (hdw : (xw == ("__debug__" : Str)) = false := by decide) (hcw : (xw == ("__classdict__" : Str)) = false := by decide)
    (hdt : (xt == ("__debug__" : Str)) = false := by decide) (hct : (xt == ("__classdict__" : Str)) = false := by decide)
    (fin : ∀ t, s.toks < t → Q (.str ⟨#[d]⟩ t) { s with toks := t + 1 }) :
    wpAny (model X.prog X.w) X.A (eval (.Subscript (.Name xr p1) (.Call (.Attribute (.Attribute (.Name xw p2) f p3) "index" p4) [.Subscript (.Name xt p5) (.Constant (.int k) j cp) p6] [] p7) p8) X.env) Q E s := by
  refine Subscript_ (raw_name hNr hvr I hr (fun v rv => ?_) hdr hcr)
  obtain ⟨t0, rfl⟩ := rv
  refine wpAny_Call_method_late hb2 hfew hline htr (quiet_fld hNw hvw I hw e cl na l hb hdw hcw fun u k1 hk1 ru => ?_)
  obtain ⟨tz, rfl⟩ := ru
  refine ⟨"str", _, F.plainAttrs_str, F.slot_str_index, F.type_str_index, typeIs_str _ _ _, (fun _ e => nomatch e), Calls.callWith_builtin rfl (Calls.evalArgs_plain (Calls.spliced_cons ?_))⟩
  refine quiet_sub hNt hvt (I.tok k1) ht h0 h63 hk hc hs hdt hct fun t2 m2 hm2 => ?_
  refine Calls.spliced_nil ?_
  refine PySem.SC.index ho ?_
  have hnl : n0 < r.cps.size := (Array.getElem?_eq_some_iff.mp hn).1
  have hrl : r.length = r.cps.size := rfl
  refine tail_any (typeIs_str _ r t0) slot_str_getitem.lookup (P.getItem_str (c := d) ?_ ?_ (fin _ (by
    have h1 : k1 ≤ m2 := hm2
    show s.toks < m2 + 1 + 1
    omega))) (hs2 _ _)
  · have e1 : decide (((n0 : Nat) : Int) < -(2 ^ 63 : Int)) = false := decide_eq_false (by omega)
    have e2 : decide (((n0 : Nat) : Int) ≥ 2 ^ 63) = false := decide_eq_false (by omega)
    rw [e1, e2, Bool.or_false]
  · rw [seqIndex_of (by omega) (by omega)]
    simpa using hn
end
end DL
set_option Elab.async false
set_option linter.all false
set_option maxRecDepth 100000
namespace DL
open PySem PySem.Spec PyProof.Rows L2
section
variable {X : Cx} {pins : List (Addr × Obj)} {σ : L2.St} {H : Hp} {s : Shared} {E : Value → Shared → Prop}
/-- a plain local name whose object the frame's map tells -/
theorem map_name {x : Str} {p : Pos} {m : Str → Option Value} {u : Value} {Q : Value → Shared → Prop} (I : Inv X pins σ H s) (hn : s.heap.Ns X.env.locals m) (hm : m x = some u) (hk : X.env.scope.names.lookup x = some .local) (fin : Q u s)
    (hd : (x == ("__debug__" : Str)) = false) : wpAny (model X.prog X.w) X.A (eval (.Name x p) X.env) Q E s := wpAny_Name (wpAny_loadName_local I.ok.kind hk hn hm fin) hd
theorem ns_kept {h h' : Heap} {a : Addr} {m : Str → Option Value} (n : h.Ns a m) (k : ∀ c o, h.get? c = some o → h'.get? c = some o) : h'.Ns a m := by
  obtain ⟨o, es, ep, e, d⟩ := n
  exact ⟨o, es, ep, k _ _ e, d⟩
/-- what one, other, row hold behind: d0 and d1 the two signs -/
def swapped (r : Str) (d0 d1 : Nat) : Str := if d0 = d1 then r else Txt.replace r ⟨#[max d0 d1]⟩ ⟨#[min d0 d1]⟩
/-- one = row[web.f.index(tie[0])]; other = row[web.f.index(tie[1])]; row = row.replace(max(one, other), min(one, other)) -/
def tSwap (K : PySem.W.Frag) (C : Addr) (f : Str) (ir iw it io iu : Nat) : TS := fun D σ H => ∃ (r z y : Str) (c0 c1 d0 d1 n0 n1 : Nat) (q0 q1 : List Nat) (a dx : Addr) (fs : List (Str × V)),
  σ[ir]? = some (some (.str r)) ∧ σ[iw]? = some (some (.ref a)) ∧ σ[it]? = some (some (.str y)) ∧ H a = some (.ins C dx fs) ∧ fs.lookup f = some (.str z) ∧ y.cps[0]? = some c0 ∧ y.cps[1]? = some c1 ∧
  Builtin.Str.occurrences z ⟨#[c0]⟩ 0 z.length 1 = n0 :: q0 ∧ Builtin.Str.occurrences z ⟨#[c1]⟩ 0 z.length 1 = n1 :: q1 ∧ r.length < 1000 ∧ r.cps[n0]? = some d0 ∧ r.cps[n1]? = some d1 ∧
  D.nx (((σ.set io (some (.str ⟨#[d0]⟩))).set iu (some (.str ⟨#[d1]⟩))).set ir (some (.str (swapped r d0 d1)))) H
theorem lt_one {a b : Nat} : (([a] : List Nat) < [b]) ↔ a < b := by
  constructor
  · intro h
    cases h with
    | rel h => exact h
    | cons h => cases h
  · intro h
    exact .rel h
theorem pss_swap {C : Addr} {f xr xw xt xo xu : Str} {ir iw it io iu : Nat} {pa pb pc : Pos} {a1 a2 a3 a4 a5 a6 a7 a8 a9 ca b1 b2 b3 b4 b5 b6 b7 b8 b9 cb c1 c2 c3 c4 c5 c6 c7 c8 c9 c10 c11 : Pos} {j0 j1 : Nat}
    (cl : Cls X.K C) (na : NoAttr X.K C f) (hc : X.calm = true) (hN : X.N.Nodup) (hNr : X.N[ir]? = some xr) (hNw : X.N[iw]? = some xw) (hNt : X.N[it]? = some xt) (hNo : X.N[io]? = some xo) (hNu : X.N[iu]? = some xu)
    (lr : X.env.scope.names.lookup xr = some .local) (lw : X.env.scope.names.lookup xw = some .local) (lt : X.env.scope.names.lookup xt = some .local) (lo : X.env.scope.names.lookup xo = some .local) (lu : X.env.scope.names.lookup xu = some .local)
    (no : xo ≠ xu) (ior : io ≠ ir) (iow : io ≠ iw) (iot : io ≠ it) (iur : iu ≠ ir)
    (gmx : Gl X "max") (gmn : Gl X "min") (mmx : X.mg "max" = none) (mmn : X.mg "min" = none)
    (hdr : (xr == ("__debug__" : Str)) = false := by decide) (hcr : (xr == ("__classdict__" : Str)) = false := by decide) (hdw : (xw == ("__debug__" : Str)) = false := by decide) (hcw : (xw == ("__classdict__" : Str)) = false := by decide)
    (hdt : (xt == ("__debug__" : Str)) = false := by decide) (hct : (xt == ("__classdict__" : Str)) = false := by decide) (hdo : (xo == ("__debug__" : Str)) = false := by decide) (hdu : (xu == ("__debug__" : Str)) = false := by decide)
    (hb : attributeBase (.Name xw a2) f X.env (eval (.Name xw a2) X.env) = eval (.Name xw a2) X.env := by rfl)
    (hb2 : attributeBase (.Attribute (.Name xw a2) f a3) "index" X.env (eval (.Attribute (.Name xw a2) f a3) X.env) = eval (.Attribute (.Name xw a2) f a3) X.env := by rfl)
    (hfew : ((backTo a7 (starEach [.Subscript (.Name xt a5) (.Constant (.int 0) j0 ca) a6] X.env)).all (fun x => !x.1) && (backToKw a7 (keywordEach [] X.env)).all (fun x => x.1.isSome)
      && decide (([.Subscript (.Name xt a5) (.Constant (.int 0) j0 ca) a6] : List Expr).length + ([] : List Keyword).length + (if ([] : List Keyword).isEmpty then 0 else 1) < 30)) = true := by rfl)
    (hline : (a4.endLine == a7.line) = true := by rfl) (htr : backTo a7 (starEach [.Subscript (.Name xt a5) (.Constant (.int 0) j0 ca) a6] X.env) = [(false, eval (.Subscript (.Name xt a5) (.Constant (.int 0) j0 ca) a6) X.env)] := by rfl)
    (kb : attributeBase (.Name xw b2) f X.env (eval (.Name xw b2) X.env) = eval (.Name xw b2) X.env := by rfl)
    (kb2 : attributeBase (.Attribute (.Name xw b2) f b3) "index" X.env (eval (.Attribute (.Name xw b2) f b3) X.env) = eval (.Attribute (.Name xw b2) f b3) X.env := by rfl)
    (kfew : ((backTo b7 (starEach [.Subscript (.Name xt b5) (.Constant (.int 1) j1 cb) b6] X.env)).all (fun x => !x.1) && (backToKw b7 (keywordEach [] X.env)).all (fun x => x.1.isSome)
      && decide (([.Subscript (.Name xt b5) (.Constant (.int 1) j1 cb) b6] : List Expr).length + ([] : List Keyword).length + (if ([] : List Keyword).isEmpty then 0 else 1) < 30)) = true := by rfl)
    (kline : (b4.endLine == b7.line) = true := by rfl) (ktr : backTo b7 (starEach [.Subscript (.Name xt b5) (.Constant (.int 1) j1 cb) b6] X.env) = [(false, eval (.Subscript (.Name xt b5) (.Constant (.int 1) j1 cb) b6) X.env)] := by rfl)
    (sw1 : swapsWith (.Subscript (.Name xr a1) (.Call (.Attribute (.Attribute (.Name xw a2) f a3) "index" a4) [.Subscript (.Name xt a5) (.Constant (.int 0) j0 ca) a6] [] a7) a8) (some (.Name xo a9)) pa.line X.env = pure false := by rfl)
    (sw2 : swapsWith (.Subscript (.Name xr b1) (.Call (.Attribute (.Attribute (.Name xw b2) f b3) "index" b4) [.Subscript (.Name xt b5) (.Constant (.int 1) j1 cb) b6] [] b7) b8) (some (.Name xu b9)) pb.line X.env = pure false := by rfl)
    (lb : attributeBase (.Name xr c1) "replace" X.env (eval (.Name xr c1) X.env) = eval (.Name xr c1) X.env := by rfl) (lline : (c2.endLine == c9.line) = true := by rfl)
    (ltr : backTo c9 (starEach [.Call (.Name "max" c3) [.Name xo c4, .Name xu c5] [] c6, .Call (.Name "min" c7) [.Name xo c8, .Name xu c10] [] c11] X.env) =
      [(false, eval (.Call (.Name "max" c3) [.Name xo c4, .Name xu c5] [] c6) X.env), (false, eval (.Call (.Name "min" c7) [.Name xo c8, .Name xu c10] [] c11) X.env)] := by rfl)
    (mx : starEach [.Name xo c4, .Name xu c5] X.env = (false, eval (.Name xo c4) X.env) :: starEach [.Name xu c5] X.env := by rfl) (mx2 : (backTo c6 (starEach [.Name xu c5] X.env)).any (·.1) = false := by rfl)
    (mx3 : backTo c6 (starEach [.Name xo c4, .Name xu c5] X.env) = [(false, eval (.Name xo c4) X.env), (false, eval (.Name xu c5) X.env)] := by rfl)
    (mi : starEach [.Name xo c8, .Name xu c10] X.env = (false, eval (.Name xo c8) X.env) :: starEach [.Name xu c10] X.env := by rfl) (mi2 : (backTo c11 (starEach [.Name xu c10] X.env)).any (·.1) = false := by rfl)
    (mi3 : backTo c11 (starEach [.Name xo c8, .Name xu c10] X.env) = [(false, eval (.Name xo c8) X.env), (false, eval (.Name xu c10) X.env)] := by rfl)
    {p9 : Pos}
    (sw3 : swapsWith (.Call (.Attribute (.Name xr c1) "replace" c2) [.Call (.Name "max" c3) [.Name xo c4, .Name xu c5] [] c6, .Call (.Name "min" c7) [.Name xo c8, .Name xu c10] [] c11] [] c9) (some (.Name xr p9)) pc.line X.env = pure false := by rfl) :
    PSs X [.Assign [.Name xo a9] (.Subscript (.Name xr a1) (.Call (.Attribute (.Attribute (.Name xw a2) f a3) "index" a4) [.Subscript (.Name xt a5) (.Constant (.int 0) j0 ca) a6] [] a7) a8) pa,
      .Assign [.Name xu b9] (.Subscript (.Name xr b1) (.Call (.Attribute (.Attribute (.Name xw b2) f b3) "index" b4) [.Subscript (.Name xt b5) (.Constant (.int 1) j1 cb) b6] [] b7) b8) pb,
      .Assign [.Name xr p9] (.Call (.Attribute (.Name xr c1) "replace" c2) [.Call (.Name "max" c3) [.Name xo c4, .Name xu c5] [] c6, .Call (.Name "min" c7) [.Name xo c8, .Name xu c10] [] c11] [] c9) pc] (tSwap X.K C f ir iw it io iu) := by
  refine ⟨fun pins s σ H D I ⟨r, z, y, k0, k1, d0, d1, n0, n1, q0, q1, a, dx, fs, er, ew, et, ea, ef, e0, e1, o0, o1, hl, g0, g1, fin⟩ => ?_⟩
  have hy0 : 0 < y.length := (Array.getElem?_eq_some_iff.mp e0).1
  have hy1 : 1 < y.length := (Array.getElem?_eq_some_iff.mp e1).1
  -- one = ..
  refine wpAny_execs_cons (wpAny_Assign_Name ?_ sw1)
  refine quiet_item (k := 0) (d := d0) hNr (.inl lr) hNw (.inl lw) hNt (.inl lt) I er ew et ea cl na ef (by decide) (by decide) hy0 e0 o0 (by omega) g0 hb hb2 hfew hline htr (hdr := hdr) (hcr := hcr) (hdw := hdw) (hcw := hcw) (hdt := hdt) (hct := hct) (fin := fun t ht => ?_)
  obtain ⟨m0, hn0, _⟩ := id I.loc
  refine store_at (I.tok (t + 1)) hN hNo lo (v := .str ⟨#[d0]⟩) ⟨t, rfl⟩ hn0 fun s1 I1 N1 ht1 => ?_
  -- other = ..
  have er1 : (σ.set io (some (V.str ⟨#[d0]⟩)))[ir]? = some (some (.str r)) := by rw [List.getElem?_set_ne ior]; exact er
  have ew1 : (σ.set io (some (V.str ⟨#[d0]⟩)))[iw]? = some (some (.ref a)) := by rw [List.getElem?_set_ne iow]; exact ew
  have et1 : (σ.set io (some (V.str ⟨#[d0]⟩)))[it]? = some (some (.str y)) := by rw [List.getElem?_set_ne iot]; exact et
  refine wpAny_execs_cons (wpAny_Assign_Name ?_ sw2)
  refine quiet_item (k := 1) (d := d1) hNr (.inl lr) hNw (.inl lw) hNt (.inl lt) I1 er1 ew1 et1 ea cl na ef (by decide) (by decide) hy1 e1 o1 (by omega) g1 kb kb2 kfew kline ktr (hdr := hdr) (hcr := hcr) (hdw := hdw) (hcw := hcw) (hdt := hdt) (hct := hct) (fin := fun t2 ht2 => ?_)
  have htt : t < t2 := by
    have h1 : t + 1 ≤ s1.toks := ht1
    omega
  refine store_at (I1.tok (t2 + 1)) hN hNu lu (v := .str ⟨#[d1]⟩) ⟨t2, rfl⟩ N1 fun s2 I2 N2 ht3 => ?_
  have mo : (fun w => if w = xu then some (Value.str ⟨#[d1]⟩ t2) else (fun w => if w = xo then some (Value.str ⟨#[d0]⟩ t) else m0 w) w) xo = some (Value.str ⟨#[d0]⟩ t) := by
    show (if xo = xu then _ else if xo = xo then _ else _) = _
    rw [if_neg no, if_pos rfl]
  have mu : (fun w => if w = xu then some (Value.str ⟨#[d1]⟩ t2) else (fun w => if w = xo then some (Value.str ⟨#[d0]⟩ t) else m0 w) w) xu = some (Value.str ⟨#[d1]⟩ t2) := by
    show (if xu = xu then _ else _) = _
    rw [if_pos rfl]
  generalize (fun w => if w = xu then some (Value.str ⟨#[d1]⟩ t2) else (fun w => if w = xo then some (Value.str ⟨#[d0]⟩ t) else m0 w) w) = m2 at N2 mo mu
  have er2 : ((σ.set io (some (V.str ⟨#[d0]⟩))).set iu (some (V.str ⟨#[d1]⟩)))[ir]? = some (some (.str r)) := by rw [List.getElem?_set_ne iur]; exact er1
  -- row = row.replace(max(one, other), min(one, other))
  refine wpAny_execs_cons (wpAny_Assign_Name ?_ sw3)
  refine wpAny_Call_method2_late lb lline ltr (raw_name hNr (.inl lr) I2 er2 (fun u ru => ?_) hdr hcr)
  obtain ⟨t0, rfl⟩ := ru
  refine ⟨"str", _, F.plainAttrs_str, F.slot_str_replace, F.type_str_replace, typeIs_str _ _ _, (fun _ e => nomatch e), Calls.callWith_builtin rfl (Calls.evalArgs_plain (Calls.spliced_cons ?_))⟩
  refine wpAny_Call_Name_kw (ld_blt (u := .builtin "max") I2 gmx mmx (by decide +kernel) (PyProof.Rows.callWith_builtin1 ?_ mx mx2) (by decide) (by decide))
  rw [mx3]
  refine Calls.spliced_cons (map_name I2 N2 mo lo (Calls.spliced_cons (map_name I2 N2 mu lu (Calls.spliced_nil ?_) hdu)) hdo)
  refine max_strs (I2.ok.hd hc) fun h3 tk3 kp3 => ?_
  have I3 : Inv X pins _ H { s2 with heap := h3, toks := tk3 } := I2.kept kp3
  have N3 := ns_kept N2 kp3
  refine Calls.spliced_cons ?_
  refine wpAny_Call_Name_kw (ld_blt (u := .builtin "min") I3 gmn mmn (by decide +kernel) (PyProof.Rows.callWith_builtin1 ?_ mi mi2) (by decide) (by decide))
  rw [mi3]
  refine Calls.spliced_cons (map_name I3 N3 mo lo (Calls.spliced_cons (map_name I3 N3 mu lu (Calls.spliced_nil ?_) hdu)) hdo)
  refine min_strs (I3.ok.hd hc) fun h4 tk4 kp4 => ?_
  have I4 : Inv X pins _ H { s2 with heap := h4, toks := tk4 } := I3.kept kp4
  refine Calls.spliced_nil ?_
  have tn : t ≠ 0 := Nat.ne_of_gt (Nat.lt_of_le_of_lt (Nat.zero_le _) ht)
  have tn2 : t2 ≠ 0 := Nat.ne_of_gt (Nat.lt_of_le_of_lt (Nat.zero_le _) ht2)
  have tne : t ≠ t2 := Nat.ne_of_lt htt
  -- the end, whatever text comes back
  have last : ∀ (t' : Tok) (k : Nat), wpAny (model X.prog X.w) X.A (storeName X.env xr (.str (swapped r d0 d1) t')) (fun _ s' => wpAny (model X.prog X.w) X.A (execs [] X.env) (SP X pins D) X.xe s') X.xe { s2 with heap := h4, toks := k } := fun t' k => by
    refine store_ok (v := .str (swapped r d0 d1)) (I4.tok k) hN hNr (.inl lr) ⟨t', rfl⟩ (fun s5 I5 => wpAny_execs_nil ⟨_, H, I5, fin⟩) (.inr lr)
  have c1 : (⟨#[d0]⟩ : Str).cps.toList < (⟨#[d1]⟩ : Str).cps.toList ↔ d0 < d1 := lt_one
  have c2 : (⟨#[d1]⟩ : Str).cps.toList < (⟨#[d0]⟩ : Str).cps.toList ↔ d1 < d0 := lt_one
  by_cases eq : d0 = d1
  · subst eq
    rw [if_neg (fun h => Nat.lt_irrefl _ (c1.mp h))]
    have es : swapped r d0 d0 = r := if_pos rfl
    have l2 := last t0 tk4
    rw [es] at l2
    exact call_replace_same tn l2
  · have hz : r.length + (r.length + 1) * (⟨#[min d0 d1]⟩ : Str).length ≤ 16777216 := by
      have e1 : (⟨#[min d0 d1]⟩ : Str).length = 1 := rfl
      rw [e1]
      omega
    have es : swapped r d0 d1 = Txt.replace r ⟨#[max d0 d1]⟩ ⟨#[min d0 d1]⟩ := if_neg eq
    rw [es] at last
    have hne : ∀ x y : Nat, x ≠ y → ((⟨#[x]⟩ : Str) == ⟨#[y]⟩) = false := fun x y h => by
      rw [beq_eq_false_iff_ne]
      intro e
      exact h (by simpa using e)
    rcases Nat.lt_or_gt_of_ne eq with h | h
    · have e1 : max d0 d1 = d1 := Nat.max_eq_right (Nat.le_of_lt h)
      have e2 : min d0 d1 = d0 := Nat.min_eq_left (Nat.le_of_lt h)
      rw [e1, e2] at last
      rw [e2] at hz
      rw [if_pos (c1.mpr h), if_neg (fun q => Nat.lt_asymm h (c2.mp q))]
      exact PySem.SC.replace tn2 tn (Ne.symm tne) (hne _ _ (by omega)) hz fun t' k => last t' k
    · have e1 : max d0 d1 = d0 := Nat.max_eq_left (Nat.le_of_lt h)
      have e2 : min d0 d1 = d1 := Nat.min_eq_right (Nat.le_of_lt h)
      rw [e1, e2] at last
      rw [e2] at hz
      rw [if_neg (fun q => Nat.lt_asymm h (c1.mp q)), if_pos (c2.mpr h)]
      exact PySem.SC.replace tn tn2 tne (hne _ _ (by omega)) hz fun t' k => last t' k
end
end DL
set_option Elab.async false
set_option linter.all false
set_option maxRecDepth 100000
namespace DL
open PySem PySem.Spec PyProof.Rows L2
section
variable {X : Cx}
/-- one = row[web.f.index(tie[0])]; other = row[web.f.index(tie[1])]; row = row.replace(max(one, other), min(one, other)) -/
def gSwap (C : Addr) (f : Str) (ir iw it io iu : Nat) : GS := fun F δ μ => ∃ (r z y : Str) (c0 c1 d0 d1 n0 n1 : Nat) (q0 q1 : List Nat) (fs : List (Str × D)),
  δ[ir]? = some (some (.str r)) ∧ δ[iw]? = some (some (.ins C fs)) ∧ δ[it]? = some (some (.str y)) ∧ fs.lookup f = some (.str z) ∧ y.cps[0]? = some c0 ∧ y.cps[1]? = some c1 ∧
  Builtin.Str.occurrences z ⟨#[c0]⟩ 0 z.length 1 = n0 :: q0 ∧ Builtin.Str.occurrences z ⟨#[c1]⟩ 0 z.length 1 = n1 :: q1 ∧ r.length < 1000 ∧ r.cps[n0]? = some d0 ∧ r.cps[n1]? = some d1 ∧
  F.nx (((δ.set io (some (.str ⟨#[d0]⟩))).set iu (some (.str ⟨#[d1]⟩))).set ir (some (.str (swapped r d0 d1)))) μ
theorem sim_swap {K : PySem.W.Frag} {C : Addr} {f : Str} {ir iw it io iu : Nat} : SimS K (tSwap K C f ir iw it io iu) (gSwap C f ir iw it io iu) := by
  intro σ H δ μ E F rm rs e ⟨r, z, y, c0, c1, d0, d1, n0, n1, q0, q1, fs, er, ew, et, ef, e0, e1, o0, o1, hl, g0, g1, fin⟩
  obtain ⟨v1, s1, r1⟩ := rs.get er
  unfold Rep at r1
  subst r1
  obtain ⟨v2, s2, r2⟩ := rs.get ew
  unfold Rep at r2
  obtain ⟨a, dx, fv, rfl, h2, n2, rf⟩ := r2
  obtain ⟨v3, s3, r3⟩ := rs.get et
  unfold Rep at r3
  subst r3
  obtain ⟨v4, s4, r4⟩ := rf.look ef
  unfold Rep at r4
  subst r4
  exact ⟨r, z, y, c0, c1, d0, d1, n0, n1, q0, q1, a, dx, fv, s1, s2, s3, h2, s4, e0, e1, o0, o1, hl, g0, g1,
    e.nx _ H _ μ (Kp.refl _ _) rm (((rs.set io (by unfold Rep; rfl)).set iu (by unfold Rep; rfl)).set ir (by unfold Rep; rfl)) fin⟩
end
end DL
set_option Elab.async false
set_option linter.all false
set_option maxRecDepth 100000
namespace DL
open PySem PySem.Spec PyProof.Rows L2
/-! ### zip of two texts -/
def ItZS (x y : Str) : It :=
  ⟨fun i H => i < x.cps.size ∧ i < y.cps.size,
    fun i H v H' => ∃ T c d, v = .ref T ∧ H T = none ∧ H' = upd H T (.tup [.str ⟨#[c]⟩, .str ⟨#[d]⟩]) ∧ x.cps[i]? = some c ∧ y.cps[i]? = some d,
    fun i H => i ≤ x.cps.size ∧ i ≤ y.cps.size ∧ (i = x.cps.size ∨ i = y.cps.size)⟩
theorem turn_zipS {P : Program} {w : World} {K : PySem.W.Frag} {elts : List Expr} {kk : Nat} {tpos : Pos} {x y : Str} {tx ty : Tok} {z TI TO i1 i2 : Addr} (D : ZipSep2 z TI TO i1 i2 [i1] [i2]) :
    Turn P w K (.Tuple elts kk tpos) (ItZS x y) [z, TI, TO, i1, i2] z (fun i h => IsZip h z TI TO .none ∧ IsTupOf2 h TI (.ref i1) (.ref i2) ∧ (∃ a b, IsTupOf2 h TO a b) ∧ h.IsStrIter i1 (strIterType x) x tx i ∧ h.IsStrIter i2 (strIterType y) y ty i) where
  mem := by simp
  obj := fun i h st c hc => by
    obtain ⟨hz, hTI, ⟨x, y, hTO⟩, ⟨o1, e1, _, d1⟩, ⟨o2, e2, _, d2⟩⟩ := st
    have e' : c = z ∨ c = TI ∨ c = TO ∨ c = i1 ∨ c = i2 := by simpa using hc
    rcases e' with q | q | q | q | q
    · rw [q]; exact ⟨_, hz, fun v q => nomatch q⟩
    · rw [q]; exact ⟨_, hTI, fun v q => nomatch q⟩
    · rw [q]; exact ⟨_, hTO, fun v q => nomatch q⟩
    · rw [q]; exact ⟨o1, e1, fun v q => by rw [d1] at q; cases q⟩
    · rw [q]; exact ⟨o2, e2, fun v q => by rw [d2] at q; cases q⟩
  keep := fun i h h' st k => by
    obtain ⟨hz, hTI, ⟨x, y, hTO⟩, ⟨o1, e1, r1⟩, ⟨o2, e2, r2⟩⟩ := st
    exact ⟨k z (by simp) _ hz, k TI (by simp) _ hTI, ⟨x, y, k TO (by simp) _ hTO⟩, ⟨o1, k i1 (by simp) o1 e1, r1⟩, ⟨o2, k i2 (by simp) o2 e2, r2⟩⟩
  item := by
    intro X hP hw hK hc i pins s σ H E I hf st hg
    subst hP hw hK
    obtain ⟨hz, hTI, ⟨x0, y0, hTO⟩, h1, h2⟩ := st
    have hzl : z < s.heap.objs.size := Heap.lt_size hz
    have hh : X.A.in1.handled = none := I.ok.hd hc
    refine wpAny_pyNext_zipD2_item D (Draws.text hh i1 x tx) (Draws.text hh i2 y ty) hz hTI hTO h1 h2 hg.1 hg.2 fun u1 u2 h' tk p1 p2 z' TO' h1' h2' hT hsz hk => ?_
    obtain ⟨c, t1, ec, rfl⟩ := p1
    obtain ⟨d, t2, ed, rfl⟩ := p2
    refine ⟨_, rfl, wpAny_letOwnedTupleGo_zip (s := { s with heap := h', toks := tk }) z' fun h'' z'' sb => ?_⟩
    have hT2 : h''.get? s.heap.objs.size = some { cls := .type "tuple", data := .seq #[.str ⟨#[c]⟩ t1, .str ⟨#[d]⟩ t2] } := (sb.2 _ (Nat.ne_of_gt hzl)).trans hT
    have new : ObjOk X.prog X.w (upd H s.heap.objs.size (.tup [.str ⟨#[c]⟩, .str ⟨#[d]⟩])) h'' s.heap.objs.size (.tup [.str ⟨#[c]⟩, .str ⟨#[d]⟩]) :=
      ⟨by show 2 ≤ sizeLine; decide, [.str ⟨#[c]⟩ t1, .str ⟨#[d]⟩ t2], .cons ⟨t1, rfl⟩ (.cons ⟨t2, rfl⟩ .nil), ⟨_, hT2, rfl, _, rfl⟩⟩
    have I1 : Inv X pins σ (upd H s.heap.objs.size (.tup [.str ⟨#[c]⟩, .str ⟨#[d]⟩])) { s with heap := h'', toks := tk } :=
      I.turnedNew (t' := tk) (ch := [z, TI, TO, i1, i2]) (fun c o hb q => (sb.2 c (fun q' => hb (by simp [q']))).trans (hk c o (fun q' => hb (by simp [q'])) (fun q' => hb (by simp [q'])) (fun q' => hb (by simp [q'])) (fun q' => hb (by simp [q'])) q)) hf (Nat.le_refl _) new
    refine ⟨.ref s.heap.objs.size, _, I1, rfl, ⟨_, c, d, rfl, I.hok.fresh (Nat.le_refl _), rfl, ec, ed⟩, ⟨z'', ?_, ⟨.str ⟨#[c]⟩ t1, .str ⟨#[d]⟩ t2, ?_⟩, ?_, ?_⟩, fun c hcm => ?_⟩
    · exact (sb.2 _ D.TIz).trans (hk _ _ D.TIz D.TITO D.TIi1 D.TIi2 hTI)
    · exact (sb.2 _ D.TOz).trans TO'
    · obtain ⟨o1, e1, r1⟩ := h1'
      exact ⟨o1, (sb.2 _ (Ne.symm D.zi1)).trans e1, r1⟩
    · obtain ⟨o2, e2, r2⟩ := h2'
      exact ⟨o2, (sb.2 _ (Ne.symm D.zi2)).trans e2, r2⟩
    · have hlt : c < s.heap.objs.size := by
        have e' : c = z ∨ c = TI ∨ c = TO ∨ c = i1 ∨ c = i2 := by simpa using hcm
        rcases e' with q | q | q | q | q
        · rw [q]; exact hzl
        · rw [q]; exact Heap.lt_size hTI
        · rw [q]; exact Heap.lt_size hTO
        · rw [q]; obtain ⟨_, e1, _⟩ := h1; exact Heap.lt_size e1
        · rw [q]; obtain ⟨_, e2, _⟩ := h2; exact Heap.lt_size e2
      rw [upd_ne (Nat.ne_of_lt hlt)]
      exact (hf c hcm).1
  done := by
    intro X hP hw hK hc i pins s σ H E I hf st hg
    subst hP hw hK
    obtain ⟨hz, hTI, ⟨x0, y0, hTO⟩, h1, h2⟩ := st
    have hh : X.A.in1.handled = none := I.ok.hd hc
    exact wpAny_pyNext_zipD2_end D (Draws.text hh i1 x tx) (Draws.text hh i2 y ty) hz hTI hTO h1 h2 hg.1 hg.2.1 hg.2.2 fun h' tk hk => ⟨rfl, I.turnedL (t' := tk) (ch := [z, TI, TO, i1, i2]) (fun c o hb q =>
      hk c o (fun q' => hb (by simp [q'])) (fun q' => hb (by simp [q'])) (fun q' => hb (by simp [q'])) (fun q' => hb (by simp [q'])) q) hf⟩
  self := fun A i s Q E st h => wpAny_pyIter_zip st.1 h
def iZipS (ta : TA) : TI := fun σ H R => ta σ H fun vs H1 => ∃ x y, vs = [.str x, .str y] ∧ R (ItZS x y) H1
theorem pi_zipS {X : Cx} {e e2 : Expr} {ta : TA} {p pos tpos : Pos} {elts : List Expr} {kk : Nat} (hg : Gl X "zip") (hm : X.mg "zip" = none) (ha : PA X [e, e2] ta)
    (hs : starEach [e, e2] X.env = (false, eval e X.env) :: starEach [e2] X.env := by rfl) (hpl : (backTo pos (starEach [e2] X.env)).any (·.1) = false := by rfl) :
    PI X (.Tuple elts kk tpos) (.Call (.Name "zip" p) [e, e2] [] pos) (iZipS ta) := by
  refine ⟨fun pins s σ H R I h => ?_⟩
  refine Call_ (ld_blt I hg hm PyProof.Rows.boot_zip (PyProof.Rows.callWith_type1 (thn (ha.run pos pins s σ H _ I h) fun us s1 ⟨vs, H1, I1, r1, q1⟩ => ?_) hs hpl))
  obtain ⟨x, y, ex, q1⟩ := q1
  subst ex
  cases r1 with
  | cons r rr =>
    cases rr with
    | cons r' rr =>
      cases rr
      obtain ⟨tx, rfl⟩ := r
      obtain ⟨ty, rfl⟩ := r'
      have fresh5 : ∀ c, c ∈ [s1.heap.objs.size + 4, s1.heap.objs.size + 2, s1.heap.objs.size + 3, s1.heap.objs.size, s1.heap.objs.size + 1] → FpOk X pins H1 c := fun c hcm => by
        have e' : c = s1.heap.objs.size + 4 ∨ c = s1.heap.objs.size + 2 ∨ c = s1.heap.objs.size + 3 ∨ c = s1.heap.objs.size ∨ c = s1.heap.objs.size + 1 := by simpa using hcm
        have hle : s1.heap.objs.size ≤ c := by
          rcases e' with z | z | z | z | z
          · rw [z]; exact Nat.le_add_right _ _
          · rw [z]; exact Nat.le_add_right _ _
          · rw [z]; exact Nat.le_add_right _ _
          · rw [z]; exact Nat.le_refl _
          · rw [z]; exact Nat.le_add_right _ _
        exact I1.fpOk hle (I1.hok.fresh hle)
      refine zip_begins2 (begins_text x tx) (begins_text y ty) trivial trivial fun h' hz hTI hTO g1 g2 hsz hk => wpAny_pyIter_zip hz ?_
      have I2 : Inv X pins σ H1 { s1 with heap := h' } := I1.kept (t' := s1.toks) hk
      exact ⟨s1.heap.objs.size + 4, [s1.heap.objs.size + 4, s1.heap.objs.size + 2, s1.heap.objs.size + 3, s1.heap.objs.size, s1.heap.objs.size + 1], _, _, H1, rfl, I2,
        turn_zipS (x := x) (y := y) (tx := tx) (ty := ty) (zip_sep2 (fun _ h => by cases h) (fun _ h => by cases h)), ⟨hz, hTI, ⟨_, _, hTO⟩, ⟨_, g1, rfl, rfl⟩, ⟨_, g2, rfl, rfl⟩⟩, fresh5, q1⟩
/-- the pairs of zip -/
def pairsS (x y : Str) : List D := List.zipWith (fun c d => D.tup [.str ⟨#[c]⟩, .str ⟨#[d]⟩]) x.cps.toList y.cps.toList
def gZipS (ga : GA) : GI := fun δ μ R => ga δ μ fun ds μ1 => match ds with
  | [.str x, .str y] => R (pairsS x y) μ1
  | _ => False
theorem walk_zipS {x y : Str} : Walk (ItZS x y) (pairsS x y).length (fun _ => True) (fun i H v H' => ∃ T c d, v = .ref T ∧ H T = none ∧ H' = upd H T (.tup [.str ⟨#[c]⟩, .str ⟨#[d]⟩]) ∧ x.cps[i]? = some c ∧ y.cps[i]? = some d) := by
  have hl : (pairsS x y).length = min x.cps.size y.cps.size := by simp [pairsS]
  refine ⟨fun i _ hi _ => ?_, fun _ _ => ?_, fun _ _ _ _ _ _ q => q⟩
  · rw [hl] at hi
    exact ⟨by omega, by omega⟩
  · rw [hl]
    exact ⟨by omega, by omega, by omega⟩
section
variable {X : Cx} {e e2 : Expr} {ga : GA}
theorem di_zipS {p pos tpos : Pos} {elts : List Expr} {kk : Nat} (hg : Gl X "zip") (hm : X.mg "zip" = none) (h : DA X [e, e2] ga)
    (hs : starEach [e, e2] X.env = (false, eval e X.env) :: starEach [e2] X.env := by rfl) (hpl : (backTo pos (starEach [e2] X.env)).any (·.1) = false := by rfl) :
    DI X (.Tuple elts kk tpos) (.Call (.Name "zip" p) [e, e2] [] pos) (gZipS ga) := by
  obtain ⟨t, a1, a2⟩ := h.ex
  refine ⟨_, pi_zipS hg hm a1 hs hpl, fun σ H δ μ Q R rm rs q f => ?_⟩
  refine a2 σ H δ μ _ _ rm rs q fun vs ds H1 μ1 k1 rm1 r1 q1 => ?_
  match ds, q1, r1 with
  | [.str x, .str y], q1, r1 =>
    obtain ⟨v, w, rfl, r2, r3⟩ := repL2 r1
    unfold Rep at r2 r3
    subst r2 r3
    refine ⟨x, y, rfl, f _ (pairsS x y) H1 μ1 k1 rm1 ?_ q1⟩
    refine walk_zipS.mono (fun _ _ => True.intro) fun i H' v H2 hi _ ⟨T, c, d, ev, nT, e2, ec, ed⟩ μ' k rm => ?_
    subst ev e2
    have nm : μ' T = none := rm.free nT
    have k2 : Kp H' μ' (upd H' T (.tup [.str ⟨#[c]⟩, .str ⟨#[d]⟩])) μ' := Kp.new nT
    refine ⟨.tup [.str ⟨#[c]⟩, .str ⟨#[d]⟩], ?_, ?_, k2, rm.laid nT⟩
    · unfold pairsS
      rw [List.getElem?_zipWith, Array.getElem?_toList, Array.getElem?_toList, ec, ed]
    · unfold Rep
      exact ⟨T, _, rfl, .inl ⟨upd_same, nm⟩, by unfold RepL; exact ⟨_, _, rfl, by unfold Rep; rfl, by unfold RepL; exact ⟨_, _, rfl, by unfold Rep; rfl, RepL.nil⟩⟩⟩
end
end DL
set_option Elab.async false
set_option linter.all false
set_option maxRecDepth 100000
namespace DL
open PySem PySem.Spec PyProof.Rows L2
/-! ### enumerate of a tuple -/
set_option maxHeartbeats 1000000 in
theorem enum_new1 {v : Value} {o : Obj} {H : Heap → Prop} (B : Begins v o H) :
    Meets (Builtin.«enumerate.__new__» ⟨[.type "enumerate", v], []⟩) (fun _ R s => H s.heap ∧
      R (.ok (.ret (.ref (s.heap.push o).objs.size))) { s with heap := (s.heap.push o).push { cls := .type "enumerate", data := .fields #[.none, .bool false, .ref s.heap.objs.size, rawInt 0, .none, .none] } }) :=
  .of_wp fun prog w A R s h => by
    obtain ⟨hp, g, d, tk, os⟩ := s; obtain ⟨h1, h⟩ := h
    have hsub := sub_enumerate
    have q1 : ∀ {A' : Around} {E : Value → Shared → Prop} {Q : Value → Shared → Prop}, Q (.ref hp.objs.size) ⟨hp.push o, g, d, tk, os⟩ → wpAny (model prog w) A' (pyIter v) Q E ⟨hp, g, d, tk, os⟩ :=
      fun q => B.iter prog w _ _ ⟨hp, g, d, tk, os⟩ _ h1 q
    wp_walk using q1
    refine wpAny_stack_any fun st => wpAny_pure ?_
    split
    · rename_i c _ _ _ _ _
      cases (c == Value.type "enumerate")
      · wp_walk using q1
        exact ⟨_, rfl, h⟩
      · wp_walk using q1
        exact ⟨_, rfl, h⟩
    · wp_walk using q1
      exact ⟨_, rfl, h⟩
theorem enum_begins1 {prog : Program} {w : World} {A : Around} {E : Value → Shared → Prop} {s : Shared} {v : Value} {o : Obj} {H : Heap → Prop} {Q : Value → Shared → Prop} (B : Begins v o H) (h1 : H s.heap)
    (h : ∀ h', IsEnum h' (s.heap.objs.size + 1) s.heap.objs.size 0 .none → h'.get? s.heap.objs.size = some o → h'.objs.size = s.heap.objs.size + 2 →
      (∀ b o, s.heap.get? b = some o → h'.get? b = some o) → Q (.ref (s.heap.objs.size + 1)) { s with heap := h' }) :
    wpAny (model prog w) A (call (.type "enumerate") [v]) Q E s := by
  refine callType_new F.called_enumerate (by decide) (F.typeCall_enumerate_1 _) (F.newCall_enumerate_1 _) (fun obj => F.args_object_init_2 obj _) F.entry_enumerate_new
    (enum_new1 B) ⟨h1, ?_⟩
  have hz : (s.heap.push o).objs.size = s.heap.objs.size + 1 := Heap.size_push ..
  show _ ∧ _
  rw [hz]
  have he : IsEnum ((s.heap.push o).push { cls := .type "enumerate", data := .fields #[.none, .bool false, .ref s.heap.objs.size, rawInt 0, .none, .none] }) (s.heap.objs.size + 1) s.heap.objs.size 0 .none := by
    have := Heap.get?_push_size (s.heap.push o) (o := { cls := .type "enumerate", data := .fields #[.none, .bool false, .ref s.heap.objs.size, rawInt 0, .none, .none] }) rfl
    rw [hz] at this; exact this
  exact ⟨⟨_, he, rfl⟩, h _ he (Heap.get?_push_of_some _ (Heap.get?_push_size _ B.free)) (by rw [Heap.size_push, hz]) fun b o x => Heap.get?_push_of_some _ (Heap.get?_push_of_some _ x)⟩
def IteT (K : PySem.W.Frag) (a : Addr) : It :=
  ⟨fun i H => ∃ (xs : List V) (x : V), SqT K H a xs ∧ xs[i]? = some x, fun i H v H' => ∃ T x, v = .ref T ∧ H T = none ∧ H' = upd H T (.tup [.int (i : Nat), x]) ∧ ∀ xs, SqT K H a xs → xs[i]? = some x, fun i H => ∃ xs : List V, SqT K H a xs ∧ xs.length = i⟩
theorem turn_enumT {P : Program} {w : World} {K : PySem.W.Frag} {elts : List Expr} {kk : Nat} {tpos : Pos} (a e it : Addr) :
    Turn P w K (.Tuple elts kk tpos) (IteT K a) [e, it] e (fun i h => (∃ old, IsEnum h e it ((i : Nat) : Int) old) ∧ h.IsTupleIter it a i ∧ e ≠ it ∧ a ≠ it ∧ e ≠ a) where
  mem := by simp
  obj := fun i h st b hb => by
    obtain ⟨⟨old, he⟩, ⟨o, ho, hc, hd⟩, _⟩ := st
    have e' : b = e ∨ b = it := by simpa using hb
    rcases e' with z | z
    · rw [z]; exact ⟨_, he, fun v q => nomatch q⟩
    · rw [z]; exact ⟨o, ho, fun v q => by rw [hd] at q; cases q⟩
  keep := fun i h h' st k => let ⟨⟨old, he⟩, hi, hne⟩ := st; ⟨⟨old, k e (by simp) _ he⟩, hi.at fun o q => k it (by simp) o q, hne⟩
  item := by
    intro X hP hw hK hc i pins s σ H E I hf st hg
    subst hP hw hK
    obtain ⟨⟨old, he⟩, hit, hne, hai, hea⟩ := st
    obtain ⟨xs, x, hq, hx⟩ := hg
    obtain ⟨its, rv, p, hz⟩ := I.tuple hq
    obtain ⟨u, hu, ru⟩ := rv.get hx
    have hel : e < s.heap.objs.size := Heap.lt_size he
    have hil : it < s.heap.objs.size := by obtain ⟨_, q, _⟩ := hit; exact Heap.lt_size q
    have hh : X.A.in1.handled = none := I.ok.hd hc
    have hl : i < its.toArray.size := by simpa using (List.getElem?_eq_some_iff.mp hu).1
    refine wpAny_pyNext_enum_itemD (Draws.tuple hh it a hai its.toArray) he ⟨hit, p⟩ hl hne (by simp [hne, hea]) fun u2 h' tk pu ho hit' hT hsz hk => ?_
    have eu : u2 = u := by
      have : its.toArray[i]? = some u2 := pu
      rw [List.getElem?_toArray, hu] at this
      exact (Option.some.inj this).symm
    subst eu
    refine ⟨_, rfl, wpAny_letOwnedTupleGo_enum (s := { s with heap := h', toks := tk + 1 }) ho fun h'' he' sb => ?_⟩
    have hT2 : h''.get? s.heap.objs.size = some { cls := .type "tuple", data := .seq #[.int i tk, u2] } := (sb.2 _ (Nat.ne_of_gt hel)).trans hT
    have new : ObjOk X.prog X.w (upd H s.heap.objs.size (.tup [.int (i : Nat), x])) h'' s.heap.objs.size (.tup [.int (i : Nat), x]) :=
      ⟨by show 2 ≤ sizeLine; decide, [.int i tk, u2], .cons ⟨_, rfl⟩ (.cons ru .nil), ⟨_, hT2, rfl, _, rfl⟩⟩
    have I1 : Inv X pins σ (upd H s.heap.objs.size (.tup [.int (i : Nat), x])) { s with heap := h'', toks := tk + 1 } :=
      I.turnedNew (ch := [e, it]) (fun b ob hb q => (sb.2 b (fun z => hb (by simp [z]))).trans (hk b ob (fun z => hb (by simp [z])) (fun z => hb (by simp [z])) q)) hf (Nat.le_refl _) new
    refine ⟨.ref s.heap.objs.size, _, I1, rfl, ⟨_, x, rfl, I.hok.fresh (Nat.le_refl _), rfl, fun ys hy => by rw [I.tuple_inj hy hq]; exact hx⟩, ⟨⟨u2, ?_⟩, hit'.1.at fun o q => (sb.2 it (Ne.symm hne)).trans q, hne, hai, hea⟩, fun b hb => ?_⟩
    · have e1 : ((i + 1 : Nat) : Int) = (i : Int) + 1 := by omega
      rw [e1]; exact he'
    · have hb' : b < s.heap.objs.size := by
        have e' : b = e ∨ b = it := by simpa using hb
        rcases e' with z | z
        · rw [z]; exact hel
        · rw [z]; exact hil
      rw [upd_ne (Nat.ne_of_lt hb')]
      exact (hf b hb).1
  done := by
    intro X hP hw hK hc i pins s σ H E I hf st hg
    subst hP hw hK
    obtain ⟨⟨old, he⟩, hit, hne, hai, hea⟩ := st
    obtain ⟨xs, hq, hx⟩ := hg
    obtain ⟨its, rv, p, hz⟩ := I.tuple hq
    obtain ⟨f0, f1, f2, f3, f4, f5⟩ := hf it (by simp)
    have hl : i = its.toArray.size := by
      have := rv.length
      simp; omega
    subst hl
    have hh : X.A.in1.handled = none := I.ok.hd hc
    exact wpAny_pyNext_enum_endD (Draws.tuple hh it a hai its.toArray) he ⟨hit, p⟩ fun h' eb => ⟨rfl, I.turned (t' := s.toks) (fun b o hb q => eb b o hb q) f0 f1 f3 f4 f5⟩
  self := fun A i s Q E st h => let ⟨⟨_, he⟩, _⟩ := st; wpAny_pyIter_enum he h
def iEnumT (K : PySem.W.Frag) (ta : TA) : TI := fun σ H R => ta σ H fun vs H1 => ∃ a xs, vs = [.ref a] ∧ SqT K H1 a xs ∧ R (IteT K a) H1
theorem pi_enumT {X : Cx} {e : Expr} {ta : TA} {p pos tpos : Pos} {elts : List Expr} {kk : Nat} (hg : Gl X "enumerate") (hm : X.mg "enumerate" = none) (ha : PA X [e] ta) (hs : starEach [e] X.env = [(false, eval e X.env)] := by rfl) :
    PI X (.Tuple elts kk tpos) (.Call (.Name "enumerate" p) [e] [] pos) (iEnumT X.K ta) := by
  refine ⟨fun pins s σ H R I h => ?_⟩
  refine Call_ (ld_blt I hg hm boot_enumerate (PyProof.Rows.callWith_type1 (thn (ha.run pos pins s σ H _ I h) fun us s1 ⟨vs, H1, I1, r1, q1⟩ => ?_) hs rfl))
  obtain ⟨a, xs, ex, hq, q⟩ := q1
  subst ex
  cases r1 with
  | cons r rr =>
    cases rr
    cases r
    obtain ⟨its, rv, p', hz⟩ := I1.tuple hq
    have hal : a < s1.heap.objs.size := by obtain ⟨_, z, _⟩ := id p'; exact Heap.lt_size z
    refine enum_begins1 (begins_tuple a its.toArray) p' fun h' he hit hsz hk => wpAny_pyIter_enum he ?_
    have I2 : Inv X pins σ H1 { s1 with heap := h' } := I1.kept (t' := s1.toks) hk
    refine ⟨s1.heap.objs.size + 1, [s1.heap.objs.size + 1, s1.heap.objs.size], _, _, H1, rfl, I2, turn_enumT a (s1.heap.objs.size + 1) s1.heap.objs.size, ⟨⟨.none, he⟩, ⟨_, hit, rfl, rfl⟩, Nat.succ_ne_self _, Nat.ne_of_lt hal, Nat.ne_of_gt (Nat.lt_succ_of_lt hal)⟩, fun b hb => ?_, q⟩
    have e' : b = s1.heap.objs.size + 1 ∨ b = s1.heap.objs.size := by simpa using hb
    have hle : s1.heap.objs.size ≤ b := by
      rcases e' with z | z
      · rw [z]; exact Nat.le_add_right _ _
      · rw [z]; exact Nat.le_refl _
    exact I1.fpOk hle (I1.hok.fresh hle)
/-- i, x of enumerate -/
def numbered (ds : List D) : List D := ds.mapIdx fun i d => D.tup [.int (i : Nat), d]
def gEnumT (ga : GA) : GI := fun δ μ R => ga δ μ fun ds μ1 => match ds with
  | [.tup xs] => R (numbered xs) μ1
  | _ => False
section
variable {X : Cx} {e : Expr} {ga : GA}
theorem di_enumT {p pos tpos : Pos} {elts : List Expr} {kk : Nat} (hg : Gl X "enumerate") (hm : X.mg "enumerate" = none) (h : DA X [e] ga) (hs : starEach [e] X.env = [(false, eval e X.env)] := by rfl) :
    DI X (.Tuple elts kk tpos) (.Call (.Name "enumerate" p) [e] [] pos) (gEnumT ga) := by
  obtain ⟨t, a1, a2⟩ := h.ex
  refine ⟨_, pi_enumT hg hm a1 hs, fun σ H δ μ Q R rm rs q f => ?_⟩
  refine a2 σ H δ μ _ _ rm rs q fun vs ds H1 μ1 k1 rm1 r1 q1 => ?_
  match ds, q1, r1 with
  | [.tup xs], q1, r1 =>
    obtain ⟨v, rfl, r2⟩ := repL1 r1
    unfold Rep at r2
    obtain ⟨a, ys, rfl, im, rl⟩ := r2
    have hl : (numbered xs).length = ys.length := by rw [rl.length]; simp [numbered]
    refine ⟨a, ys, rfl, im.sq, f _ (numbered xs) H1 μ1 k1 rm1 ?_ q1⟩
    refine ⟨fun i H' hi ⟨μ', k, _⟩ => ?_, fun H' ⟨μ', k, _⟩ => ⟨ys, (im.mono k).sq, hl.symm⟩, fun i H' v H2 hi _ y => ?_⟩
    · have h1 : i < ys.length := by rw [← hl]; exact hi
      exact ⟨ys, ys[i], (im.mono k).sq, by simp [h1]⟩
    · intro μ' k rm
      obtain ⟨T, x, rfl, nT, rfl, e4⟩ := y
      have ex := e4 ys (im.mono k).sq
      obtain ⟨d, e3, r3⟩ := (rl.mono k).atV ex
      have nm : μ' T = none := rm.free nT
      have k2 : Kp H' μ' (upd H' T (.tup [.int (i : Nat), x])) μ' := Kp.new nT
      refine ⟨.tup [.int (i : Nat), d], ?_, ?_, k2, rm.laid nT⟩
      · unfold numbered
        rw [List.getElem?_mapIdx, e3]
        rfl
      · unfold Rep
        exact ⟨T, _, rfl, .inl ⟨upd_same, nm⟩, by unfold RepL; exact ⟨_, _, rfl, by unfold Rep; rfl, by unfold RepL; exact ⟨_, _, rfl, r3.mono k2, RepL.nil⟩⟩⟩
end
end DL
set_option Elab.async false
set_option linter.all false
set_option maxRecDepth 100000
namespace DL
open PySem PySem.Spec PyProof.Rows L2
/-! ### sorted of a text -/
theorem strsAre_signs (x : Str) (acc : Array Value) (h : ItemsOf (SignAt x) acc x.cps.size) : StrsAre acc.toList (x.cps.toList.map fun c => (⟨#[c]⟩ : Str)) := by
  have v := signs_vals x acc h
  have key : ∀ (l : List Nat) (us : List Value), Vals (l.map fun c => V.str ⟨#[c]⟩) us → StrsAre us (l.map fun c => (⟨#[c]⟩ : Str)) := by
    intro l
    induction l with
    | nil => intro us v; cases v; exact .nil
    | cons c l ih =>
      intro us v
      cases v with
      | cons r rr =>
        obtain ⟨t, rfl⟩ := r
        exact .cons _ t (ih _ rr)
  exact key _ _ v
theorem sorted_text {prog : Program} {w : World} {A : Around} {E : Value → Shared → Prop} {s : Shared} {x : Str} {t : Tok} {Q : Value → Shared → Prop} (hh : A.handled = none) (hz : x.cps.size ≤ sizeLine)
    (h : ∀ (h1 h2 : Heap) (tk : Nat) (out : Array Value) (n : Nat) (ss' : List Str), (∀ b o, s.heap.get? b = some o → h1.get? b = some o) → (∀ b o, h1.get? b = some o → h2.get? b = some o) → h2.get? h1.objs.size = some (seqObj "list" out n) →
      StrsAre out.toList ss' → ss'.Perm (x.cps.toList.map fun c => (⟨#[c]⟩ : Str)) → sortedS ss' = true → Q (.ref h1.objs.size) { s with heap := h2, toks := tk }) :
    wpAny (model prog w) A (call (.builtin "sorted") [.str x t]) Q E s := by
  refine Calls.call_function_entry kind_sorted plain_sorted entry_sorted (args_sorted1 _) ?_
  unfold Builtin.«sorted»
  refine wpAny_bind (m := checkCount "sorted" 1 1 _) (wpAny_pure ?_)
  refine wpAny_bind (wpAny_collect_str (show A.in1.handled = none from hh) x t (fun s' acc k g d o hi => ?_) hz)
  have es : s' = { s with heap := s'.heap, toks := s'.toks } := by
    cases s'
    cases s
    cases g
    cases d
    cases o
    rfl
  generalize s'.heap = h1 at *
  generalize s'.toks = tk at *
  subst es
  have hS := strsAre_signs x acc hi
  have hl : acc.toList.length ≤ sizeLine := by rw [Array.length_toList, hi.1]; exact hz
  refine wpAny_bind (wpAny_newList ?_)
  have hoL : (h1.push (seqObj "list" acc.toList.toArray 0)).get? h1.objs.size = some (seqObj "list" acc.toList.toArray 0) := Heap.get?_push_size _ rfl
  refine wpAny_bind (wpAny_holding (wpAny_call_entry slot_list_sort ⟨_, hoL, rfl⟩ entry_list_sort (list_sort_treeKAny strKind_oneLt hoL hS.keysOf (fun v₁ v₂ rest e => keyKind_strs (by rw [← e]; exact hS)) hl fun st' hp hs => ⟨_, rfl, ?_⟩) (args_list_sort _)))
  obtain ⟨ss', q1, q2, q3⟩ := sorted_out_str hS hp hs
  obtain ⟨n, hn⟩ := sortedHeap_at (vs := acc.toList) (out := (arrOf st').map (·.2)) hoL
  refine wpAny_pure ⟨_, rfl, h h1 _ tk _ n ss' k (fun b ob e => ?_) hn q1 q2 q3⟩
  have hb := Heap.lt_size e
  rw [sortedHeap_old (Nat.ne_of_lt hb) (by rw [Heap.size_push]; exact Nat.lt_succ_of_lt hb)]
  exact Heap.get?_push_of_some _ e
def rSortedT : List V → Hp → VK → Prop := fun vs H Q => ∃ x : Str, vs = [V.str x] ∧ x.cps.size ≤ sizeLine ∧
  ∀ (ys : List Str) (p : Addr), ys.Perm (x.cps.toList.map fun c => (⟨#[c]⟩ : Str)) → sortedS ys = true → H p = none → Q (.ref p) (upd H p (.lst (ys.map V.str)))
theorem cr_sortedT {X : Cx} (hc : X.calm = true) : CallR X (.builtin "sorted") rSortedT := by
  intro pins s σ H vs us Q I r h
  obtain ⟨x, rfl, hz, q⟩ := h
  obtain ⟨u, rfl, t, rfl⟩ := vals1 r
  refine sorted_text (I.ok.hd hc) hz fun h1 h2 tk out n ss' k1 k2 ho hS hp hs => ?_
  have I1 : Inv X pins σ H { s with heap := h1, toks := tk } := I.kept (t' := tk) k1
  have hlen : (ss'.map V.str).length ≤ sizeLine := by rw [List.length_map, hp.length_eq, List.length_map, Array.length_toList]; exact hz
  exact ⟨.ref _, upd H h1.objs.size (.lst (ss'.map V.str)), I1.laid (t' := tk) k2 (Nat.le_refl _) ⟨hlen, out.toList, n, vals_of_strs hS, ho⟩, rfl, q ss' _ hp hs (I1.hok.fresh (Nat.le_refl _))⟩
def gSortedT1 : G1 := fun x μ R => match x with
  | .str z => z.cps.size ≤ sizeLine ∧ ∀ ys : List Str, ys.Perm (z.cps.toList.map fun c => (⟨#[c]⟩ : Str)) → sortedS ys = true → R (.lst (List.map D.str ys)) μ
  | _ => False
theorem sim_sortedT {K : PySem.W.Frag} : SimC K rSortedT (g1 gSortedT1) := sim_g1 fun v d H μ Q R rm rv q f => by
  cases d <;> try exact False.elim q
  exact ⟨_, by rw [rep_str rv], q.1, fun ys p hp hs n => fw_lst rm n (RepL.of_strs ys) (q.2 ys hp hs) f⟩
end DL
set_option Elab.async false
set_option linter.all false
set_option maxRecDepth 100000
namespace DL
open PySem PySem.Spec PyProof.Rows L2
/-! ### the order of lists of ints -/
def ltI : List Int → List Int → Bool
  | [], [] => false
  | [], _ :: _ => true
  | _ :: _, [] => false
  | x :: xs, y :: ys => if x = y then ltI xs ys else decide (x < y)
theorem ltI_asym : ∀ a b, ltI a b = true → ltI b a = false
  | [], [], h => by cases h
  | [], _ :: _, _ => rfl
  | _ :: _, [], h => by cases h
  | x :: xs, y :: ys, h => by
    unfold ltI at h ⊢
    by_cases e : x = y
    · rw [if_pos e] at h
      rw [if_pos e.symm]
      exact ltI_asym xs ys h
    · rw [if_neg e] at h
      rw [if_neg (Ne.symm e)]
      have := of_decide_eq_true h
      exact decide_eq_false (by omega)
theorem ltI_tr : ∀ x y z, ltI y x = false → ltI z y = false → ltI z x = false
  | [], [], z, _, h => h
  | [], _ :: _, [], _, h => by cases h
  | [], _ :: _, _ :: _, _, _ => rfl
  | _ :: _, [], _, h, _ => by cases h
  | _ :: _, _ :: _, [], _, h => by cases h
  | x :: xs, y :: ys, z :: zs, h1, h2 => by
    unfold ltI at h1 h2 ⊢
    by_cases e1 : y = x
    · rw [if_pos e1] at h1
      by_cases e2 : z = y
      · rw [if_pos e2] at h2
        rw [if_pos (e2.trans e1)]
        exact ltI_tr xs ys zs h1 h2
      · rw [if_neg e2] at h2
        have h3 := of_decide_eq_false h2
        rw [if_neg (by omega)]
        exact decide_eq_false (by omega)
    · rw [if_neg e1] at h1
      have h3 := of_decide_eq_false h1
      by_cases e2 : z = y
      · rw [if_neg (by omega)]
        exact decide_eq_false (by omega)
      · rw [if_neg e2] at h2
        have h4 := of_decide_eq_false h2
        rw [if_neg (by omega)]
        exact decide_eq_false (by omega)
theorem ltI_anti : ∀ a b, ltI a b = false → ltI b a = false → a = b
  | [], [], _, _ => rfl
  | [], _ :: _, h, _ => by cases h
  | _ :: _, [], _, h => by cases h
  | x :: xs, y :: ys, h1, h2 => by
    unfold ltI at h1 h2
    by_cases e : x = y
    · rw [if_pos e] at h1
      rw [if_pos e.symm] at h2
      rw [e, ltI_anti xs ys h1 h2]
    · rw [if_neg e] at h1
      rw [if_neg (Ne.symm e)] at h2
      have h3 := of_decide_eq_false h1
      have h4 := of_decide_eq_false h2
      omega
theorem swo_ltI (k : Value → List Int) : SrtO.Swo fun v u => ltI (k v) (k u) := ⟨fun x y => ltI_asym (k x) (k y), fun x y z => ltI_tr (k x) (k y) (k z)⟩
section
variable {prog : Program} {w : World} {A : Around} {E : Value → Shared → Prop} {s : Shared}
theorem kat_ints {Q : Bool → Shared → Prop} {fin : Bool} : ∀ {us vs : List Value} {ns ms : List Int} (i : Nat), IntsAre us ns → IntsAre vs ms → fin = decide (ns.length < ms.length) → Q (ltI ns ms) s → PySem.W.KatLex prog w A true fin Q (us.zip vs) i s := by
  intro us
  induction us with
  | nil =>
    intro vs ns ms i h1 h2 hf hq
    cases h1
    subst hf
    cases h2 with
    | nil => exact PySem.W.kat_nil hq
    | cons y t r => exact PySem.W.kat_nil hq
  | cons u us ih =>
    intro vs ns ms i h1 h2 hf hq
    cases h1 with
    | cons x t r1 =>
      cases h2 with
      | nil =>
        subst hf
        exact PySem.W.kat_nil hq
      | cons y t2 r2 =>
        rename_i ns' vs' ms'
        refine PySem.W.kat_cons (SeqAt.EqAt.int_int x t y t2 prog w _ _ ?_)
        refine PySem.W.kat_go (fun e1 => ?_) (fun e1 => ?_)
        · have e : x = y := by simpa using e1
          refine PySem.W.kat_yes (ih (i + 1) r1 r2 ?_ ?_)
          · subst hf
            simp
          · have e3 : ltI (x :: ns') (y :: ms') = ltI ns' ms' := if_pos e
            rw [← e3]
            exact hq
        · have e : ¬ x = y := by simpa using e1
          have e3 : ltI (x :: ns') (y :: ms') = decide (x < y) := if_neg e
          refine PySem.W.kat_no (TS.oneLt_ints _ ?_)
          rw [← e3]
          exact hq
theorem lexAt_shift {e r : Nat → Bool} {z : Bool} : ∀ (k i : Nat), Ob.lexAt (fun j => e (j + 1)) (fun j => r (j + 1)) z i k = Ob.lexAt e r z (i + 1) k
  | 0, i => rfl
  | k + 1, i => by
    unfold Ob.lexAt
    rw [lexAt_shift k (i + 1)]
theorem lexAt_ltI : ∀ ns ms : List Int, Ob.lexAt (fun j => decide (ns.getD j 0 = ms.getD j 0)) (fun j => decide (ns.getD j 0 < ms.getD j 0)) (decide (ns.length < ms.length)) 0 (min ns.length ms.length) = ltI ns ms
  | [], [] => rfl
  | [], _ :: _ => by
    show decide (0 < _ + 1) = true
    exact decide_eq_true (Nat.succ_pos _)
  | x :: xs, [] => by
    rw [show min (x :: xs).length ([] : List Int).length = 0 by simp]
    rfl
  | x :: xs, y :: ys => by
    have hm : min (x :: xs).length (y :: ys).length = min xs.length ys.length + 1 := by
      simp only [List.length_cons]
      omega
    have hl : decide ((x :: xs).length < (y :: ys).length) = decide (xs.length < ys.length) := by simp
    rw [hm, hl, Ob.lexAt_succ]
    rw [← lexAt_shift]
    have ih := lexAt_ltI xs ys
    show (if decide (x = y) = true then Ob.lexAt (fun j => decide (xs.getD j 0 = ys.getD j 0)) (fun j => decide (xs.getD j 0 < ys.getD j 0)) _ 0 _ else decide (x < y)) = _
    rw [ih]
    unfold ltI
    by_cases e : x = y
    · rw [if_pos (decide_eq_true e), if_pos e]
      conv => rhs; unfold ltI
    · rw [if_neg (by simp [e]), if_neg e]
/-- tuples of ints of one type: as their lists of ints -/
theorem one_ints {Q : Bool → Shared → Prop} {l b : Addr} {us vs : Array Value} {ns ms : List Int} (hl : s.heap.IsTuple l us) (hb : s.heap.IsTuple b vs) (i1 : IntsAre us.toList ns) (i2 : IntsAre vs.toList ms) (hu : A.units < cLine) (h : Q (ltI ns ms) s) :
    wpAny (model prog w) A (oneLt' true (.ref l) (.ref b)) Q E s := by
  rw [oneLt'_eq]
  simp only [if_true]
  refine wpAny_bind (wpAny_cRoomFor hu ?_)
  have e1 : us.size = ns.length := by rw [← i1.length, Array.length_toList]
  have e2 : vs.size = ms.length := by rw [← i2.length, Array.length_toList]
  have at1 : ∀ j (h1 : j < us.size), ∃ t, us[j] = .int (ns.getD j 0) t := fun j h1 => PyProof.Rows.IntsAre.int_at i1 _ _ (by simp [h1])
  have at2 : ∀ j (h1 : j < vs.size), ∃ t, vs[j] = .int (ms.getD j 0) t := fun j h1 => PyProof.Rows.IntsAre.int_at i2 _ _ (by simp [h1])
  have he : ∀ j (h1 : j < us.size) (h2 : j < vs.size), SeqAt.EqAt A.in1 s us[j] vs[j] ((fun j => decide (ns.getD j 0 = ms.getD j 0)) j) := fun j h1 h2 => by
    obtain ⟨t, et⟩ := at1 j h1
    obtain ⟨t', et'⟩ := at2 j h2
    rw [et, et']
    have z : (ns.getD j 0 == ms.getD j 0) = decide (ns.getD j 0 = ms.getD j 0) := by
      by_cases q : ns.getD j 0 = ms.getD j 0
      · rw [decide_eq_true q]; exact beq_iff_eq.mpr q
      · rw [decide_eq_false q]; exact beq_eq_false_iff_ne.mpr q
    show SeqAt.EqAt _ _ _ _ (decide (ns.getD j 0 = ms.getD j 0))
    rw [← z]
    exact SeqAt.EqAt.int_int _ _ _ _
  have hr : ∀ j (h1 : j < us.size) (h2 : j < vs.size), (fun j => decide (ns.getD j 0 = ms.getD j 0)) j = false → Ob.RcOp .Lt A.in1 s us[j] vs[j] ((fun j => decide (ns.getD j 0 < ms.getD j 0)) j) := fun j h1 h2 _ => by
    obtain ⟨t, et⟩ := at1 j h1
    obtain ⟨t', et'⟩ := at2 j h2
    rw [et, et']
    exact Ob.RcOp.lt_int _ _ _ _
  obtain ⟨⟨cls, dd, data, sl⟩, ho, hc, n, hd⟩ := id hl
  obtain ⟨⟨cls2, dd2, data2, sl2⟩, ho2, hc2, n2, hd2⟩ := id hb
  simp only at hc hd hc2 hd2
  subst hc hd hc2 hd2
  refine wpAny_bind (wpAny_callSpecialIfBound?_slot (name := Str.ofString "__lt__") ⟨_, ho, rfl⟩ F.slot_tuple_lt (call_meets F.slot_tuple_lt ⟨_, ho, rfl⟩ F.entry_tuple_lt (F.args_tuple_lt_2 _ _)
    (Ob.tuple_ltAt l b us vs n n2 dd dd2 sl sl2 _ _) ⟨ho, ho2, he, hr, ?_⟩))
  have lx := lexAt_ltI ns ms
  rw [← e1, ← e2] at lx
  rw [lx]
  exact wpAny_truthy_bool h
/-- the i-th is a tuple of the i-th ints -/
def TupsI (h : Heap) : List Value → List (List Int) → Prop
  | [], [] => True
  | v :: vs, ns :: r => TS.TupInts h v ns ∧ TupsI h vs r
  | _, _ => False
theorem firsts_any : ∀ (vs : List Value) (nss : List (List Int)) {Q : List (Option Value) → Shared → Prop}, TupsI s.heap vs nss → (∀ fs : List (Option Value), fs.map (·.isSome) = nss.map (fun ns => !ns.isEmpty) → Q fs s) → wpAny (model prog w) A (vs.mapM firstOfTuple') Q E s
  | [], [], _, _, h => by rw [List.mapM_nil]; exact wpAny_pure (h [] rfl)
  | [], _ :: _, _, t, _ => t.elim
  | _ :: _, [], _, t, _ => t.elim
  | v :: vs, ns :: nss, Q, t, h => by
    obtain ⟨⟨a, xs, rfl, hT, hi⟩, t⟩ := t
    obtain ⟨o, ho, hc, n, hd⟩ := hT
    rw [List.mapM_cons]
    refine wpAny_bind ?_
    rw [PySem.W.kas_first_eq]
    have hc' : o.cls = .type "tuple" := hc
    refine wpAny_bind (PySem.W.Looks.here (show PySem.W.Looks (model prog w) s.heap (typeOf (.ref a)) o.cls from (PySem.W.Looks.ld ho).andThen .now) ?_)
    rw [hc', if_neg (by first | decide | simp)]
    refine wpAny_bind (listItems_at ho hd (wpAny_pure ?_))
    refine wpAny_bind (firsts_any vs nss (Q := fun bs s' => wpAny (model prog w) A (pure (xs[0]? :: bs)) Q E s') t fun fs hf => wpAny_pure (h _ ?_))
    rw [List.map_cons, List.map_cons, hf]
    congr 1
    rw [← Array.getElem?_toList]
    generalize xs.toList = l at hi ⊢
    cases hi with
    | nil => rfl
    | cons x t r => rfl
theorem firsts_ints {h : Heap} : ∀ {vs : List Value} {nss : List (List Int)}, TupsI h vs nss → (∀ ns ∈ nss, ns ≠ []) → ∃ fs, PySem.W.KatTups h vs fs ∧ fs.length = vs.length ∧ ∀ f ∈ fs, ∃ x t, f = .int x t
  | [], [], _, _ => ⟨[], PySem.W.KatTups.nil, rfl, fun f hf => by cases hf⟩
  | v :: vs, ns :: nss, t, hn => by
    obtain ⟨⟨a, xs, rfl, hT, hi⟩, t⟩ := t
    obtain ⟨fs, h1, h2, h3⟩ := firsts_ints t fun m hm => hn m (List.mem_cons_of_mem _ hm)
    obtain ⟨o, ho, hc, n, hd⟩ := hT
    have hne := hn ns List.mem_cons_self
    have e : ∃ x t, xs.toList[0]? = some (.int x t) := by
      generalize xs.toList = l at hi ⊢
      cases hi with
      | nil => exact absurd rfl hne
      | cons x t r => exact ⟨x, t, rfl⟩
    obtain ⟨x, t, e⟩ := e
    refine ⟨.int x t :: fs, PySem.W.KatTups.cons ho hc hd (by rw [← Array.getElem?_toList]; exact e) h1, by rw [List.length_cons, List.length_cons, h2], fun f hf => ?_⟩
    rcases List.mem_cons.mp hf with e | hf
    · exact ⟨x, t, e⟩
    · exact h3 f hf
theorem TupsI.all {h : Heap} : ∀ {vs : List Value} {nss : List (List Int)}, TupsI h vs nss → ∀ v ∈ vs, ∃ ns ∈ nss, TS.TupInts h v ns
  | [], [], _, v, hv => by cases hv
  | v :: vs, ns :: nss, t, u, hu => by
    rcases List.mem_cons.mp hu with rfl | hu
    · exact ⟨ns, List.mem_cons_self, t.1⟩
    · obtain ⟨ms, h1, h2⟩ := TupsI.all t.2 u hu
      exact ⟨ms, List.mem_cons_of_mem _ h1, h2⟩
theorem TupsI.length {h : Heap} : ∀ {vs : List Value} {nss : List (List Int)}, TupsI h vs nss → vs.length = nss.length
  | [], [], _ => rfl
  | v :: vs, ns :: nss, t => by rw [List.length_cons, List.length_cons, TupsI.length t.2]
theorem kind_tups {vs : List Value} {nss : List (List Int)} {Q : SortKind → Shared → Prop} (t : TupsI s.heap vs nss) (h : (∀ ns ∈ nss, ns ≠ []) ∨ nss.head? = some []) (hne : 0 < vs.length)
    (h1 : (∀ ns ∈ nss, ns ≠ []) → Q (tuples' true) s) (h2 : nss.head? = some [] → Q oneType' s) : wpAny (model prog w) A (keyKind' vs.toArray) Q E s := by
  rcases h with h | h
  · obtain ⟨fs, q1, q2, q3⟩ := firsts_ints t h
    refine PySem.W.kat_kind (T := .type "int") q1 (by omega) (fun f hm => ?_) (by rfl) ?_
    · obtain ⟨x, t, rfl⟩ := q3 f hm
      exact PySem.W.Looks.now
    · have e : (Value.type "int" != Value.type "tuple") = true := by first | decide +kernel | rfl | decide
      rw [e]
      exact h1 h
  · rw [kat_kind_eq, List.mapM_toArray, map_eq_pure_bind]
    refine wpAny_bind (wpAny_bind (firsts_any vs nss t fun fs hf => wpAny_pure ?_))
    match nss, h, t with
    | [] :: nss, h, t =>
      match fs, hf with
      | f :: fs, hf =>
        rw [List.map_cons, List.map_cons] at hf
        injection hf with hf0 hf
        have hf0' : f = none := by
          cases f with
          | none => rfl
          | some u => cases hf0
        subst hf0'
        rw [if_neg (by simp), if_neg (by simp)]
        rw [oneTypeOnly'_eq, List.mapM_toArray, map_eq_pure_bind]
        refine wpAny_bind (wpAny_bind (wpAny_bind (PySem.W.kas_mapM (r := .type "tuple") _ (fun v hv Q' hq => ?_) (wpAny_pure ?_))))
        · obtain ⟨ns, _, a, xs, rfl, ⟨o, ho, hc, n, hd⟩, hi⟩ := TupsI.all t v hv
          have hc' : o.cls = .type "tuple" := hc
          refine PySem.W.Looks.here (show PySem.W.Looks (model prog w) s.heap (typeOf (.ref a)) o.cls from (PySem.W.Looks.ld ho).andThen .now) ?_
          rw [hc']
          exact hq
        · match vs, hne with
          | v :: vs, hne =>
            have hall : ((List.map (fun _ => Value.type "tuple") (v :: vs)).toArray.all fun x => x == Value.type "tuple") = true := by
              simp only [List.all_toArray, List.all_map, List.all_eq_true]
              intro _ _
              rfl
            have h0 : (List.map (fun _ => Value.type "tuple") (v :: vs)).toArray[0]? = some (Value.type "tuple") := by simp
            rw [h0]
            simp only [hall, if_true]
            exact wpAny_pure (wpAny_pure (h2 rfl))
theorem cmp_tups1 {vs : List Value} {k : Value → List Int} (hp : ∀ v ∈ vs, TS.TupInts s.heap v (k v)) : SrtO.Cmp prog w A s (tuples' true) (fun p => p.1 ∈ vs) (SrtO.lt2 fun v u => ltI (k v) (k u)) := by
  intro p q hm hm'
  have h1 := hp _ hm
  have h2 := hp _ hm'
  show wpAny (model prog w) A (keyLt' (tuples' true) p.1 q.1) (fun r s' => s' = s ∧ r = ltI (k p.1) (k q.1)) (fun _ _ => False) s
  generalize k p.1 = ns at h1 ⊢
  generalize k q.1 = ms at h2 ⊢
  obtain ⟨a, xs, e, ⟨o, ho, hc, n, hd⟩, hi⟩ := h1
  obtain ⟨a', xs', e', ⟨o', ho', hc', n', hd'⟩, hi'⟩ := h2
  rw [e, e']
  refine PySem.W.kat_lt ho hd ho' hd' ?_
  refine kat_ints 0 hi hi' ?_ ⟨rfl, rfl⟩
  rw [← hi.length, ← hi'.length, Array.length_toList, Array.length_toList]
theorem cmp_tups2 {vs : List Value} {k : Value → List Int} (hu : A.units < cLine) (hp : ∀ v ∈ vs, TS.TupInts s.heap v (k v)) : SrtO.Cmp prog w A s oneType' (fun p => p.1 ∈ vs) (SrtO.lt2 fun v u => ltI (k v) (k u)) := by
  intro p q hm hm'
  have h1 := hp _ hm
  have h2 := hp _ hm'
  show wpAny (model prog w) A (keyLt' oneType' p.1 q.1) (fun r s' => s' = s ∧ r = ltI (k p.1) (k q.1)) (fun _ _ => False) s
  generalize k p.1 = ns at h1 ⊢
  generalize k q.1 = ms at h2 ⊢
  obtain ⟨a, xs, e, hT, hi⟩ := h1
  obtain ⟨a', xs', e', hT', hi'⟩ := h2
  rw [e, e', keyLt'_oneType]
  exact one_ints hT hT' hi hi' hu ⟨rfl, rfl⟩
theorem tup_keeps {h h' : Heap} {v : Value} {ns : List Int} (k : ∀ b o, h.get? b = some o → o.cls = .type "tuple" → h'.get? b = some o) (t : TS.TupInts h v ns) : TS.TupInts h' v ns := by
  obtain ⟨a, xs, e, ⟨o, ho, hc, n, hd⟩, hi⟩ := t
  exact ⟨a, xs, e, ⟨o, k a o ho hc, hc, n, hd⟩, hi⟩
theorem tups_keeps {h h' : Heap} (k : ∀ b o, h.get? b = some o → o.cls = .type "tuple" → h'.get? b = some o) : ∀ {vs : List Value} {nss : List (List Int)}, TupsI h vs nss → TupsI h' vs nss
  | [], [], _ => True.intro
  | v :: vs, ns :: nss, t => ⟨tup_keeps k t.1, tups_keeps k t.2⟩
theorem sorted_tups {l : Addr} {vs : List Value} {nss : List (List Int)} {k : Value → List Int} {Q : Value → Shared → Prop} (hu : A.units + 64 < cLine) (hl : s.heap.IsList l vs.toArray) (hz : vs.length ≤ sizeLine) (t : TupsI s.heap vs nss) (hp : ∀ v ∈ vs, TS.TupInts s.heap v (k v))
    (hd : (∀ ns ∈ nss, ns ≠ []) ∨ nss.head? = some [])
    (h : ∀ out : List Value, SrtO.Srtd (fun v u => ltI (k v) (k u)) out → SrtO.Stb (fun v u => ltI (k v) (k u)) out vs → Q (.ref (s.heap.objs.size + 1)) { s with heap := sortedAll s.heap vs out.toArray }) :
    wpAny (model prog w) A (call (.builtin "sorted") [.ref l]) Q E s := by
  refine SrtO.sorted_ord (swo_ltI k) hl hz (fun h2 h₁ a ha kk => ?_) h
  intro h' keep
  have kp : ∀ b o, s.heap.get? b = some o → o.cls = .type "tuple" → h'.get? b = some o := fun b o e c => keep b o (kk b o e).1 (kk b o e).2
  have t' : TupsI h' vs nss := tups_keeps kp t
  have hp' : ∀ v ∈ vs, TS.TupInts h' v (k v) := fun v hv => tup_keeps kp (hp v hv)
  by_cases hc : nss.head? = some []
  · refine ⟨oneType', fun Q E hq => kind_tups (s := { s with heap := h' }) t' (.inr hc) (by omega) (fun hh => ?_) (fun _ => hq), cmp_tups2 (s := { s with heap := h' }) (show A.units + 1 + 1 < cLine by omega) hp'⟩
    match nss, hc, hh with
    | ns :: nss, hc, hh =>
      have e : ns = [] := by simpa using hc
      exact absurd e (hh ns List.mem_cons_self)
  · exact ⟨tuples' true, fun Q E hq => kind_tups (s := { s with heap := h' }) t' (.inl (hd.resolve_right hc)) (by omega) (fun _ => hq) (fun hh => absurd hh hc), cmp_tups1 (s := { s with heap := h' }) hp'⟩
end
end DL
set_option Elab.async false
set_option linter.all false
set_option maxRecDepth 100000
namespace DL
open PySem PySem.Spec PyProof.Rows L2
/-! ### sorted of tuples of ints -/
theorem ints_same : ∀ {us : List Value} {ns ms : List Int}, IntsAre us ns → IntsAre us ms → ns = ms
  | _, _, _, .nil, .nil => rfl
  | _, _, _, .cons x t r, h => by
    cases h with
    | cons y t r' => rw [ints_same r r']
theorem tup_same {h : Heap} {v : Value} {ns ms : List Int} (a : TS.TupInts h v ns) (b : TS.TupInts h v ms) : ns = ms := by
  obtain ⟨t, xs, rfl, ⟨o, ho, hc, n, hd⟩, hi⟩ := a
  obtain ⟨t', xs', e, ⟨o', ho', hc', n', hd'⟩, hi'⟩ := b
  cases e
  rw [ho] at ho'
  cases ho'
  rw [hd] at hd'
  cases hd'
  exact ints_same hi hi'
open Classical in
noncomputable def keyT (h : Heap) (v : Value) : List Int := if q : ∃ ns, TS.TupInts h v ns then q.choose else []
theorem keyT_is {h : Heap} {v : Value} {ns : List Int} (t : TS.TupInts h v ns) : keyT h v = ns := by
  have q : ∃ ns, TS.TupInts h v ns := ⟨ns, t⟩
  unfold keyT
  rw [dif_pos q]
  exact tup_same q.choose_spec t
def TupIs (K : PySem.W.Frag) (H : Hp) : List V → List (List Int) → Prop
  | [], [] => True
  | x :: xs, ns :: r => TupI K H x ns ∧ TupIs K H xs r
  | _, _ => False
theorem TupIs.has {K : PySem.W.Frag} {H : Hp} : ∀ {xs : List V} {nss : List (List Int)}, TupIs K H xs nss → ∀ x ∈ xs, ∃ ns, TupI K H x ns
  | [], [], _, x, hx => by cases hx
  | y :: xs, ns :: r, t, x, hx => by
    rcases List.mem_cons.mp hx with rfl | hx
    · exact ⟨ns, t.1⟩
    · exact TupIs.has t.2 x hx
section
variable {X : Cx} {pins : List (Addr × Obj)} {σ : L2.St} {H : Hp} {s : Shared}
theorem tupsI_of (I : Inv X pins σ H s) : ∀ {us : List Value} {nss : List (List Int)}, (∀ u ∈ us, ∃ a, u = Value.ref a) → TupIs X.K H (us.map bkV) nss → TupsI s.heap us nss
  | [], [], _, _ => True.intro
  | u :: us, ns :: r, h, t => by
    obtain ⟨a, rfl⟩ := h u List.mem_cons_self
    obtain ⟨⟨t', e, ht⟩, t2⟩ := t
    have e' : V.ref a = V.ref t' := e
    cases e'
    exact ⟨tupI_raw I ht, tupsI_of I (fun v hv => h v (List.mem_cons_of_mem _ hv)) t2⟩
  | [], _ :: _, _, t => t.elim
  | _ :: _, [], _, t => t.elim
def rSortI (K : PySem.W.Frag) : List V → Hp → VK → Prop := fun vs H Q => ∃ (a : Addr) (xs : List V) (nss : List (List Int)), vs = [V.ref a] ∧ SqL K H a xs ∧ TupIs K H xs nss ∧ ((∀ ns ∈ nss, ns ≠ []) ∨ nss.head? = some []) ∧
  ∀ (ys : List V) (p : Addr), ys.Perm xs → ys.Pairwise (fun x y => ∀ n m, TupI K H x n → TupI K H y m → ltI m n = false) → H p = none → Q (.ref p) (upd H p (.lst ys))
theorem cr_sortI (hu : X.A.units + 64 < cLine) : CallR X (.builtin "sorted") (rSortI X.K) := by
  intro pins s σ H vs us Q I r h
  obtain ⟨a, xs, nss, rfl, hs, ht, hd, q⟩ := h
  obtain ⟨its, rv, hl, hz⟩ := I.list hs
  rw [Vals.ref1 r]
  obtain ⟨e1, e2⟩ := bkV_refs rv fun x m => by
    obtain ⟨ns, t, e, _⟩ := ht.has x m
    exact ⟨t, e⟩
  have t := tupsI_of I e2 (e1 ▸ ht)
  have hp : ∀ v ∈ its, TS.TupInts s.heap v (keyT s.heap v) := fun v hv => by
    obtain ⟨ns, _, h⟩ := TupsI.all t v hv
    rw [keyT_is h]
    exact h
  refine sorted_tups hu hl.isList (by rw [← rv.length]; exact hz) t hp hd fun out h1 h2 => ?_
  obtain ⟨ep, he'⟩ := PyProof.Rows.sortedAll_at s.heap its out.toArray
  have hpm : out.Perm its := h2.perm
  have h3 : ∀ u ∈ out, ∃ a, u = Value.ref a := fun u hu => e2 u (hpm.mem_iff.mp hu)
  have hp2 : (out.map bkV).Perm xs := by
    rw [e1]
    exact hpm.map bkV
  have hlen : (out.map bkV).length ≤ sizeLine := by
    rw [hp2.length_eq]
    exact hz
  refine ⟨.ref _, upd H (s.heap.objs.size + 1) (.lst (out.map bkV)), I.laid (t' := s.toks) (fun _ _ => PyProof.Rows.sortedAll_old) (Nat.le_succ _) ⟨hlen, out, ep, bkV_vals h3, he'⟩, rfl, q _ _ hp2 ?_ (I.hok.fresh (Nat.le_succ _))⟩
  rw [List.pairwise_map]
  refine List.Pairwise.imp (fun {u v} huv n m hn hm => ?_) h1
  obtain ⟨t, et, ht⟩ := hn
  obtain ⟨t', et', ht'⟩ := hm
  have eu := bkV_ref et
  have ev := bkV_ref et'
  subst eu ev
  have huv : ltI (keyT s.heap (Value.ref t')) (keyT s.heap (Value.ref t)) = false := huv
  rw [keyT_is (tupI_raw I ht), keyT_is (tupI_raw I ht')] at huv
  exact huv
end
/-- a tuple of ints -/
def dI (ns : List Int) : D := .tup (ns.map D.int)
section
variable {K : PySem.W.Frag} {H : Hp} {μ : Mu}
theorem tupI_rep {ns : List Int} {v : V} (h : Rep K H μ (dI ns) v) : TupI K H v ns := by
  unfold dI at h
  unfold Rep at h
  obtain ⟨a, vs, rfl, im, rl⟩ := h
  have e := rl.ints
  exact ⟨a, rfl, e ▸ im.sq⟩
theorem tupIs_rep : ∀ {nss : List (List Int)} {vs : List V}, RepL K H μ (nss.map dI) vs → TupIs K H vs nss
  | [], vs, h => by
    unfold RepL at h
    subst h
    exact True.intro
  | ns :: r, vs, h => by
    rw [List.map_cons] at h
    unfold RepL at h
    obtain ⟨v, w, rfl, h1, h2⟩ := h
    exact ⟨tupI_rep h1, tupIs_rep h2⟩
/-- another order -/
theorem rep_perm {nss : List (List Int)} {vs ws : List V} (h : RepL K H μ (nss.map dI) vs) (p : ws.Perm vs) : ∃ mss : List (List Int), mss.Perm nss ∧ RepL K H μ (mss.map dI) ws := by
  induction p generalizing nss with
  | nil => exact ⟨nss, List.Perm.refl _, h⟩
  | @cons x l1 l2 p ih =>
    match nss, h with
    | [], h =>
      simp only [List.map_nil] at h
      unfold RepL at h
      cases h
    | ns :: r, h =>
      rw [List.map_cons] at h
      unfold RepL at h
      obtain ⟨v, w, e, h1, h2⟩ := h
      cases e
      obtain ⟨mss, m1, m2⟩ := ih h2
      exact ⟨ns :: mss, m1.cons ns, by rw [List.map_cons]; exact RepL.cons h1 m2⟩
  | swap x y l =>
    match nss, h with
    | [], h =>
      simp only [List.map_nil] at h
      unfold RepL at h
      cases h
    | [ns], h =>
      rw [List.map_cons] at h
      unfold RepL at h
      obtain ⟨v, w, e, h1, h2⟩ := h
      cases e
      simp only [List.map_nil] at h2
      unfold RepL at h2
      cases h2
    | ns :: ms :: r, h =>
      rw [List.map_cons, List.map_cons] at h
      unfold RepL at h
      obtain ⟨v, w, e, h1, h2⟩ := h
      cases e
      unfold RepL at h2
      obtain ⟨v, w, e, h3, h4⟩ := h2
      cases e
      exact ⟨ms :: ns :: r, List.Perm.swap _ _ _, by rw [List.map_cons, List.map_cons]; exact RepL.cons h3 (RepL.cons h1 h4)⟩
  | trans p1 p2 ih1 ih2 =>
    obtain ⟨m2, q2, r2⟩ := ih2 h
    obtain ⟨m1, q1, r1⟩ := ih1 r2
    exact ⟨m1, q1.trans q2, r1⟩
theorem pw_rep : ∀ {nss : List (List Int)} {vs : List V}, RepL K H μ (nss.map dI) vs → vs.Pairwise (fun x y => ∀ n m, TupI K H x n → TupI K H y m → ltI m n = false) → nss.Pairwise (fun a b => ltI b a = false)
  | [], _, _, _ => .nil
  | ns :: r, vs, h, p => by
    rw [List.map_cons] at h
    unfold RepL at h
    obtain ⟨v, w, rfl, h1, h2⟩ := h
    rw [List.pairwise_cons] at p
    refine List.pairwise_cons.mpr ⟨fun m hm => ?_, pw_rep h2 p.2⟩
    have : ∀ {l : List (List Int)} {ws : List V}, RepL K H μ (l.map dI) ws → m ∈ l → ∃ x ∈ ws, TupI K H x m := by
      intro l
      induction l with
      | nil => intro ws _ hm; cases hm
      | cons k l ih =>
        intro ws hr hm
        rw [List.map_cons] at hr
        unfold RepL at hr
        obtain ⟨x, ws', rfl, g1, g2⟩ := hr
        rcases List.mem_cons.mp hm with rfl | hm
        · exact ⟨x, List.mem_cons_self, tupI_rep g1⟩
        · obtain ⟨y, hy, ty⟩ := ih g2 hm
          exact ⟨y, List.mem_cons_of_mem _ hy, ty⟩
    obtain ⟨x, hx, tx⟩ := this h2 hm
    exact p.1 x hx ns m (tupI_rep h1) tx
end
def okI (nss : List (List Int)) : Prop := (∀ ns ∈ nss, ns ≠ []) ∨ nss.head? = some []
def sortI (ds : List D) (μ : Mu) (R : KD) : Prop := ∃ nss : List (List Int), ds = nss.map dI ∧ okI nss ∧ ∀ out : List (List Int), out.Perm nss → out.Pairwise (fun a b => ltI b a = false) → R (.lst (out.map dI)) μ
def gSortI1 : G1 := fun x μ R => match x with
  | .lst ds => sortI ds μ R
  | .adr a => match μ a with
    | some (.lst ds) => sortI ds μ R
    | _ => False
  | _ => False
theorem sort_end {K : PySem.W.Frag} {H : Hp} {μ : Mu} {a : Addr} {vs : List V} {nss : List (List Int)} {Q : VK} {R : KD} (rm : RM K H μ) (hs : SqL K H a vs) (l : RepL K H μ (nss.map dI) vs) (hk : okI nss)
    (q : ∀ out : List (List Int), out.Perm nss → out.Pairwise (fun a b => ltI b a = false) → R (.lst (out.map dI)) μ) (f : Fw K H μ R Q) : rSortI K [.ref a] H Q := by
  refine ⟨a, vs, nss, rfl, hs, tupIs_rep l, hk, fun ys p hp pw n => ?_⟩
  obtain ⟨mss, m1, m2⟩ := rep_perm l hp
  exact fw_lst rm n m2 (q mss m1 (pw_rep m2 pw)) f
theorem sim_sortI {K : PySem.W.Frag} : SimC K (rSortI K) (g1 gSortI1) := sim_g1 fun v d H μ Q R rm rv q f => by
  cases d <;> try exact False.elim q
  · obtain ⟨nss, rfl, hk, q⟩ := q
    obtain ⟨p, vs, rfl, i, _, l⟩ := rep_lst rv
    exact sort_end rm (SqL.of i) l hk q f
  · rename_i a
    have q : (match μ a with | some (.lst ds) => sortI ds μ R | _ => False) := q
    cases e0 : μ a with
    | none => rw [e0] at q; exact False.elim q
    | some o =>
      rw [e0] at q
      cases o <;> try exact False.elim q
      obtain ⟨nss, rfl, hk, q⟩ := q
      obtain ⟨vs, h1, l⟩ := rm a _ e0
      rw [rep_adr rv]
      exact sort_end rm (SqL.of h1) l hk q f
end DL
set_option Elab.async false
set_option linter.all false
set_option maxRecDepth 100000
namespace DL
open PySem PySem.Spec PyProof.Rows L2
/-! ### dicts of keys that are ints or texts -/
def valD {κ : Type} [DecidableEq κ] (kvs : List (κ × D)) (k : κ) : Option D := (kvs.find? fun kv => decide (kv.1 = k)).map (·.2)
def putD {κ : Type} [DecidableEq κ] (kvs : List (κ × D)) (k : κ) (v : D) : List (κ × D) :=
  if (kvs.any fun kv => decide (kv.1 = k)) = true then kvs.map (fun kv => if kv.1 = k then (kv.1, v) else kv) else kvs ++ [(k, v)]
def mergeD {κ : Type} [DecidableEq κ] (kvs more : List (κ × D)) : List (κ × D) := more.foldl (fun acc kv => putD acc kv.1 kv.2) kvs
def kD : Key → D
  | .inl i => .int i
  | .inr x => .str x
def keyOf : D → Option Key
  | .int i => some (.inl i)
  | .str x => some (.inr x)
  | _ => none
section
variable {K : PySem.W.Frag} {H : Hp} {μ : Mu}
theorem key_rep {d : D} {k : Key} {v : V} (e : keyOf d = some k) (h : Rep K H μ d v) : v = kV k := by
  cases d <;> try cases e
  · exact rep_int h
  · exact rep_str h
theorem kD_rep {k : Key} {v : V} (h : Rep K H μ (kD k) v) : v = kV k := by
  cases k
  · exact rep_int h
  · exact rep_str h
theorem RepK.look {κ : Type} [DecidableEq κ] {k : κ} {d : D} : ∀ {kvs : List (κ × D)} {kv : List (κ × V)}, RepK K H μ kvs kv → valD kvs k = some d → ∃ v, valV kv k = some v ∧ Rep K H μ d v
  | [], _, _, e => by cases e
  | (k0, d0) :: r, kv, h, e => by
    unfold RepK at h
    obtain ⟨v, s, rfl, h1, h2⟩ := h
    by_cases q : k0 = k
    · have e' : d0 = d := by simpa [valD, q] using e
      exact ⟨v, valV_pos q, e' ▸ h1⟩
    · have e' : valD r k = some d := by simpa [valD, q] using e
      obtain ⟨w, g1, g2⟩ := RepK.look h2 e'
      exact ⟨w, (valV_neg q).trans g1, g2⟩
theorem RepK.any {κ : Type} [DecidableEq κ] {k : κ} : ∀ {kvs : List (κ × D)} {kv : List (κ × V)}, RepK K H μ kvs kv → (kv.any fun p => decide (p.1 = k)) = (kvs.any fun p => decide (p.1 = k))
  | [], _, h => by
    unfold RepK at h
    subst h
    rfl
  | (k0, d0) :: r, kv, h => by
    unfold RepK at h
    obtain ⟨v, s, rfl, h1, h2⟩ := h
    rw [List.any_cons, List.any_cons, RepK.any h2]
theorem RepK.length {κ : Type} : ∀ {kvs : List (κ × D)} {kv : List (κ × V)}, RepK K H μ kvs kv → kv.length = kvs.length
  | [], _, h => by
    unfold RepK at h
    subst h
    rfl
  | (k0, d0) :: r, kv, h => by
    unfold RepK at h
    obtain ⟨v, s, rfl, h1, h2⟩ := h
    rw [List.length_cons, List.length_cons, RepK.length h2]
theorem RepK.change {κ : Type} [DecidableEq κ] {k : κ} {d : D} {v : V} (rv : Rep K H μ d v) : ∀ {kvs : List (κ × D)} {kv : List (κ × V)}, RepK K H μ kvs kv →
    RepK K H μ (kvs.map fun p => if p.1 = k then (p.1, d) else p) (kv.map fun p => if p.1 = k then (p.1, v) else p)
  | [], _, h => by
    unfold RepK at h
    subst h
    unfold RepK
    rfl
  | (k0, d0) :: r, kv, h => by
    unfold RepK at h
    obtain ⟨w, s, rfl, h1, h2⟩ := h
    rw [List.map_cons, List.map_cons]
    by_cases q : k0 = k
    · rw [if_pos q, if_pos q]
      unfold RepK
      exact ⟨v, _, rfl, rv, RepK.change rv h2⟩
    · rw [if_neg q, if_neg q]
      unfold RepK
      exact ⟨w, _, rfl, h1, RepK.change rv h2⟩
theorem RepK.snoc {κ : Type} [DecidableEq κ] {k : κ} {d : D} {v : V} (rv : Rep K H μ d v) : ∀ {kvs : List (κ × D)} {kv : List (κ × V)}, RepK K H μ kvs kv → RepK K H μ (kvs ++ [(k, d)]) (kv ++ [(k, v)])
  | [], _, h => by
    unfold RepK at h
    subst h
    show RepK K H μ [(k, d)] [(k, v)]
    unfold RepK
    exact ⟨v, [], rfl, rv, by unfold RepK; rfl⟩
  | (k0, d0) :: r, kv, h => by
    unfold RepK at h
    obtain ⟨w, s, rfl, h1, h2⟩ := h
    rw [List.cons_append, List.cons_append]
    unfold RepK
    exact ⟨w, _, rfl, h1, RepK.snoc rv h2⟩
theorem RepK.put {κ : Type} [DecidableEq κ] {k : κ} {d : D} {v : V} {kvs : List (κ × D)} {kv : List (κ × V)} (h : RepK K H μ kvs kv) (rv : Rep K H μ d v) : RepK K H μ (putD kvs k d) (putK kv k v) := by
  unfold putD putK
  rw [RepK.any h]
  split
  · exact RepK.change rv h
  · exact RepK.snoc rv h
theorem RepK.lookN {κ : Type} [DecidableEq κ] {k : κ} : ∀ {kvs : List (κ × D)} {kv : List (κ × V)}, RepK K H μ kvs kv → valD kvs k = none → valV kv k = none
  | [], _, h, _ => by
    unfold RepK at h
    subst h
    rfl
  | (k0, d0) :: r, kv, h, e => by
    unfold RepK at h
    obtain ⟨v, s, rfl, h1, h2⟩ := h
    by_cases q : k0 = k
    · simp [valD, q] at e
    · have e' : valD r k = none := by simpa [valD, q] using e
      exact (valV_neg q).trans (RepK.lookN h2 e')
theorem RepK.merge : ∀ {more : List (Key × D)} {mv : List (Key × V)} {kvs : List (Key × D)} {kv : List (Key × V)}, RepK K H μ more mv → RepK K H μ kvs kv → RepK K H μ (mergeD kvs more) (mergeK kv mv)
  | [], _, _, _, h, h2 => by
    unfold RepK at h
    subst h
    exact h2
  | (k0, d0) :: r, mv, kvs, kv, h, h2 => by
    unfold RepK at h
    obtain ⟨w, s, rfl, h1, h3⟩ := h
    show RepK K H μ (mergeD (putD kvs k0 d0) r) (mergeK (putK kv k0 w) s)
    exact RepK.merge h3 (h2.put h1)
def pairD (p : Key × D) : D := .tup [kD p.1, p.2]
theorem pairs_rep : ∀ {ps : List (Key × D)} {vs : List V}, RepL K H μ (ps.map pairD) vs → ∃ (as : List Addr) (kv : List (Key × V)), vs = as.map V.ref ∧ Paired (fun p kv => SqT K H p [kV kv.1, kv.2]) as kv ∧ RepK K H μ ps kv
  | [], vs, h => by
    simp only [List.map_nil] at h
    unfold RepL at h
    subst h
    exact ⟨[], [], rfl, .nil, by unfold RepK; rfl⟩
  | (k, d) :: r, vs, h => by
    rw [List.map_cons] at h
    unfold RepL at h
    obtain ⟨v, w, rfl, h1, h2⟩ := h
    obtain ⟨as, kv, rfl, g1, g2⟩ := pairs_rep h2
    obtain ⟨a, us, rfl, im, rl⟩ := rep_tup h1
    obtain ⟨x, y, rfl, r1, r2⟩ := repL2 rl
    have e := kD_rep r1
    subst e
    exact ⟨a :: as, (k, y) :: kv, rfl, .cons im.sq g1, by unfold RepK; exact ⟨y, kv, rfl, r2, g2⟩⟩
end
theorem RM.cellD {K : PySem.W.Frag} {H : Hp} {μ : Mu} {p : Addr} {kv : List (Key × V)} {kvs : List (Key × D)} (rm : RM K H μ) (n : H p = none) (r : RepK K H μ kvs kv) : RM K (upd H p (.dK kv)) (DL.put μ p (.dct kvs)) :=
  rm.put (Kp.cell n) (fun a o ea e => upd_ne ea) ⟨kv, upd_same, r.mono (Kp.cell n) _ _⟩
/-- dict(list of pairs) -/
def gDictP1 : G1 := fun x μ R => match x with
  | .lst ds => ∃ ps : List (Key × D), ds = ps.map pairD ∧ ∀ a, μ a = none → R (.adr a) (put μ a (.dct (mergeD [] ps)))
  | _ => False
abbrev rDictP (K : PySem.W.Frag) : List V → Hp → VK → Prop := fun xs H Q => ∃ (a : Addr) (ps : List Addr) (kvs : List (Key × V)), xs = [.ref a] ∧ SqL K H a (ps.map V.ref) ∧ Paired (fun p kv => SqT K H p [kV kv.1, kv.2]) ps kvs ∧
    ∀ p, H p = none → Q (.ref p) (upd H p (.dK (mergeK [] kvs)))
theorem sim_dictP {K : PySem.W.Frag} : SimC K (rDictP K) (g1 gDictP1) := sim_g1 fun v d H μ Q R rm rv q f => by
  cases d <;> try exact False.elim q
  obtain ⟨ps, rfl, q⟩ := q
  obtain ⟨p, vs, rfl, i, _, l⟩ := rep_lst rv
  obtain ⟨as, kv, rfl, g1, g2⟩ := pairs_rep l
  refine ⟨p, as, kv, rfl, SqL.of i, g1, fun c n => ?_⟩
  have z : RepK K H μ (mergeD [] ps) (mergeK [] kv) := g2.merge (by unfold RepK; rfl)
  exact f (.ref c) (.adr c) _ _ (Kp.cell n) (rm.cellD n z) to_adr (q c (rm.free n))
/-- d[k] -/
def gDGet (go gi : GE) : GE := fun δ μ R => go δ μ fun x μ1 => gi δ μ1 fun y μ2 => match x with
  | .adr a => ∃ kvs k d, μ2 a = some (.dct kvs) ∧ keyOf y = some k ∧ valD kvs k = some d ∧ R d μ2
  | _ => False
section
variable {X : Cx} {o i e : Expr} {pos : Pos} {go gi ge : GE}
theorem de_dget (hu : X.A.units + 1 < cLine) (ho : DE X o go) (hi : DE X i gi) (hs : NoSl i) : DE X (.Subscript o i pos) (gDGet go gi) := by
  obtain ⟨t, a1, a2⟩ := ho.ex
  obtain ⟨t2, b1, b2⟩ := hi.ex
  refine ⟨_, pe_dget hu a1 b1 hs, fun σ H δ μ Q R rm rs q f => ?_⟩
  refine a2 σ H δ μ _ _ rm rs q fun v d H1 μ1 k1 rm1 r1 q1 => ?_
  refine b2 σ H1 δ μ1 _ _ rm1 (rs.mono k1) q1 fun y dy H2 μ2 k2 rm2 r2 q2 => ?_
  cases d <;> try exact False.elim q2
  rename_i a
  obtain ⟨kvs, k, d, e0, ek, ed, q2⟩ := q2
  obtain ⟨kv, h1, l⟩ := rm2 a _ e0
  obtain ⟨w, g1, g2⟩ := l.look ed
  have ey := key_rep ek r2
  refine ⟨a, w, rep_adr (r1.mono k2), ?_, f w d H2 μ2 (k1.trans k2) rm2 g2 q2⟩
  rw [ey, ← g1]
  exact DGet.k h1
def setD (x y d : D) (μ : Mu) (R : Mu → Prop) : Prop := match x with
  | .adr a => ∃ kvs k, μ a = some (.dct kvs) ∧ keyOf y = some k ∧ kvs.length < sizeLine ∧ R (put μ a (.dct (putD kvs k d)))
  | _ => False
def hSubD (go gi : GE) : GH := fun d δ μ R => go δ μ fun x μ1 => gi δ μ1 fun y μ2 => setD x y d μ2 fun μ3 => R δ μ3
theorem simH_subDD {K : PySem.W.Frag} : SimH K (gSub (tOf K go) (tOf K gi) rSetD) (hSubD go gi) := by
  intro v d σ H δ μ Q R rm rs r q f
  refine sim_of σ H δ μ _ _ rm rs q fun x dx H1 μ1 k1 rm1 r1 q1 => ?_
  refine sim_of σ H1 δ μ1 _ _ rm1 (rs.mono k1) q1 fun y dy H2 μ2 k2 rm2 r2 q2 => ?_
  cases dx <;> try exact False.elim q2
  rename_i a
  obtain ⟨kvs, k, e0, ek, hl, q2⟩ := q2
  obtain ⟨kv, e1, l⟩ := rm2 a _ e0
  have kw : Kp H2 μ2 (upd H2 a (.dK (putK kv k v))) (put μ2 a (.dct (putD kvs k d))) := Kp.write e0
  have ey := key_rep ek r2
  refine ⟨a, _, rep_adr (r1.mono k2), by rw [ey]; exact DPut.k e1 (by rw [l.length]; exact hl), f _ _ _ _ (k1.trans (k2.trans kw)) ?_ (rs.mono (k1.trans (k2.trans kw))) q2⟩
  exact rm2.put (m := .dct (putD kvs k d)) kw (fun b o n _ => upd_ne n) ⟨_, upd_same, (l.put (r.mono (k1.trans k2))).mono kw _ _⟩
theorem pg_subDD (hu : X.A.units + 1 < cLine) (ho : DE X o go) (hi : DE X i gi)
    (ha : ∀ v, assign (.Subscript o i pos) X.env v = (do
      let ov ← holding [v] (eval o X.env)
      let iv ← holding [v, ov] (eval i X.env)
      standAt pos
      holding [v, ov, iv] (setItem ov iv v)
      release [v, ov, iv] []) := by intro _; rfl) : PG X (.Subscript o i pos) (gSub (tOf X.K go) (tOf X.K gi) rSetD) := pg_sub ho.pe hi.pe (set_dict hu) ha
end
end DL
set_option Elab.async false
set_option linter.all false
set_option maxRecDepth 100000
namespace DL
open PySem PySem.Spec PyProof.Rows L2
/-! ### set(list), of keys of any kind -/
end DL
set_option Elab.async false
set_option linter.all false
set_option maxRecDepth 100000
namespace DL
open PySem PySem.Spec PyProof.Rows L2
/-! ### len(set(list of texts)) -/
end DL
set_option Elab.async false
set_option linter.all false
set_option maxRecDepth 100000
namespace DL
open PySem PySem.Spec PyProof.Rows L2
/-! ### f(k = v, ..) -/
structure DK (X : Cx) (kws : List Keyword) (g : GA) : Prop where
  ex : ∃ t, PK X kws t ∧ SimA X.K t g
theorem dk_nil {X : Cx} : DK X [] (fun _ μ R => R [] μ) := ⟨_, pk_nil, fun σ H δ μ Q R rm rs q f => f [] [] H μ (Kp.refl _ _) rm RepL.nil q⟩
theorem dk_cons {X : Cx} {nm : Option Str} {e : Expr} {kpos : Pos} {kws : List Keyword} {ge : GE} {ga : GA} (he : DE X e ge) (hr : DK X kws ga) : DK X (⟨nm, e, kpos⟩ :: kws) (fun δ μ R => ge δ μ fun d μ1 => ga δ μ1 fun ds μ2 => R (d :: ds) μ2) := by
  obtain ⟨t, a1, a2⟩ := he.ex
  obtain ⟨u, b1, b2⟩ := hr.ex
  refine ⟨_, pk_cons a1 b1, fun σ H δ μ Q R rm rs q f => ?_⟩
  refine a2 σ H δ μ _ _ rm rs q fun v d H1 μ1 k1 rm1 r1 q1 => ?_
  exact b2 σ H1 δ μ1 _ _ rm1 (rs.mono k1) q1 fun vs ds H2 μ2 k2 rm2 r2 q2 => f (v :: vs) (d :: ds) H2 μ2 (k1.trans k2) rm2 (RepL.cons (r1.mono k2) r2) q2
/-- the parameters' order -/
def gCallK (g : GC) (gD : List D → List D) (n : Nat) (ga : GA) : GE := fun δ μ R => ga δ μ fun ds μ1 => ds.length = n ∧ g (gD ds) μ1 R
section
variable {X : Cx} {k : Nat} {f : Addr} {fd : FuncData} {ps ks : List Str} {g : GC} {x : Str} {p pos : Pos} {kws : List Keyword} {ga : GA} {gp : List Value → List Value → List Value} {gV : List V → List V → List V} {gD : List D → List D}
theorem de_callK0 (F : FnOk X.prog X.w X.K X.mg X.base CX0 k f fd ps (toSp X.K g)) (hr : Room k X.A) (hg : Gl X x) (hm : X.mg x = some (.ref f)) (hk : PySem.W.keepIn X.K (.ref f) = true) (hb : KBn X.K fd ps 0 ks gp gV)
    (hD : ∀ (H : Hp) (μ : Mu) (ds : List D) (vs : List V), RepL X.K H μ ds vs → ds.length = ks.length → RepL X.K H μ (gD ds) (gV [] vs))
    (hkw : DK X kws ga) (hall : (backToKw pos (keywordEach kws X.env)).all (·.1.isSome) = true := by rfl) (hks : (backToKw pos (keywordEach kws X.env)).filterMap (·.1) = ks := by rfl)
    (hdb : (x == ("__debug__" : Str)) = false := by decide)
    (hpl : ((backTo pos (starEach [] X.env)).any (·.1) || (backToKw pos (keywordEach kws X.env)).any (·.1.isNone)) = false := by rfl) :
    DE X (.Call (.Name x p) [] kws pos) (gCallK g gD ks.length ga) := by
  obtain ⟨t, a1, a2⟩ := hkw.ex
  refine ⟨fun σ H Q => t σ H fun vs H1 => vs.length = ks.length ∧ toSp X.K g (gV [] vs) H1 Q E0, ⟨fun pins s σ H Q I h => ?_⟩, fun σ H δ μ Q R rm rs q f => ?_⟩
  · refine wpAny_Call_Name_kw (ld_glob I hg hm ?_ hdb)
    refine PySem.W.callWith_KW0 (h₀ := X.base) I.ok.mod.kin hk hall (thn (a1.run pos pins s σ H _ I h) fun us s1 ⟨vs, H1, I1, r, l, q⟩ => ⟨I1.kIn, ?_⟩) hpl
    rw [hks]
    exact run_fnN F hr hb (pass0 (X := X)) I1 .nil r rfl l q
  · refine a2 σ H δ μ _ _ rm rs q fun vs ds H1 μ1 k1 rm1 r1 q1 => ⟨by rw [r1.length]; exact q1.1, gD ds, μ1, R, rm1, hD H1 μ1 ds vs r1 q1.1, q1.2, f.re k1⟩
end
/-! ### tuple(range(n)), list(range(n)) -/
def upTo (n : Nat) : List D := (List.range n).map fun i => D.int (i : Nat)
theorem upTo_rep {K : PySem.W.Frag} {H : Hp} {μ : Mu} {n : Nat} : RepL K H μ (upTo n) (rgV 0 (n : Int)) := by
  unfold upTo rgV
  have e : ((n : Int) - 0).toNat = n := by omega
  rw [e]
  generalize List.range n = l
  induction l with
  | nil => exact RepL.nil
  | cons i l ih =>
    rw [List.map_cons, List.map_cons]
    refine RepL.cons ?_ ih
    have e : (0 : Int) + (i : Nat) = (i : Nat) := by omega
    rw [e]
    exact to_int
def gTupRg (g : GE) : GE := fun δ μ R => g δ μ fun d μ1 => match d with
  | .int i => ∃ n : Nat, i = n ∧ n ≤ 16777216 ∧ R (.tup (upTo n)) μ1
  | _ => False
def gLstRg (g : GE) : GE := fun δ μ R => g δ μ fun d μ1 => match d with
  | .int i => ∃ n : Nat, i = n ∧ n ≤ 16777216 ∧ R (.lst (upTo n)) μ1
  | _ => False
section
variable {X : Cx} {a : Expr} {ga : GE} {p p2 pos q : Pos}
theorem de_tupRg (hc : X.calm = true) (hg : Gl X "tuple") (hm : X.mg "tuple" = none) (hg2 : Gl X "range") (hm2 : X.mg "range" = none) (ha : DE X a ga) (n1 : starEach [a] X.env = (false, eval a X.env) :: starEach [] X.env := by rfl)
    (n2 : starEach [.Call (.Name "range" p2) [a] [] q] X.env = (false, eval (.Call (.Name "range" p2) [a] [] q) X.env) :: starEach [] X.env := by rfl) : DE X (.Call (.Name "tuple" p) [.Call (.Name "range" p2) [a] [] q] [] pos) (gTupRg ga) := by
  obtain ⟨t, a1, a2⟩ := ha.ex
  refine ⟨_, pe_tupRg hc hg hm (prg_1 hg2 hm2 a1 n1) n2, fun σ H δ μ Q R rm rs q f => ?_⟩
  refine a2 σ H δ μ _ _ rm rs q fun v d H1 μ1 k1 rm1 r1 q1 => ?_
  cases d <;> try exact False.elim q1
  obtain ⟨n, rfl, hn, q1⟩ := q1
  refine ⟨(n : Int), rep_int r1, RgOk.of_le (by omega) (by omega) (by omega) (by omega), fun c nc => ?_⟩
  exact fw_tup rm1 nc upTo_rep q1 (f.re k1)
theorem de_listRg (hc : X.calm = true) (hg : Gl X "list") (hm : X.mg "list" = none) (hg2 : Gl X "range") (hm2 : X.mg "range" = none) (ha : DE X a ga) (n1 : starEach [a] X.env = (false, eval a X.env) :: starEach [] X.env := by rfl)
    (n2 : starEach [.Call (.Name "range" p2) [a] [] q] X.env = (false, eval (.Call (.Name "range" p2) [a] [] q) X.env) :: starEach [] X.env := by rfl) : DE X (.Call (.Name "list" p) [.Call (.Name "range" p2) [a] [] q] [] pos) (gLstRg ga) := by
  obtain ⟨t, a1, a2⟩ := ha.ex
  refine ⟨_, pe_listRg hc hg hm (prg_1 hg2 hm2 a1 n1) n2, fun σ H δ μ Q R rm rs q f => ?_⟩
  refine a2 σ H δ μ _ _ rm rs q fun v d H1 μ1 k1 rm1 r1 q1 => ?_
  cases d <;> try exact False.elim q1
  obtain ⟨n, rfl, hn, q1⟩ := q1
  refine ⟨(n : Int), rep_int r1, RgOk.of_le (by omega) (by omega) (by omega) (by omega), fun c nc => ?_⟩
  exact fw_lst rm1 nc upTo_rep q1 (f.re k1)
end
end DL
set_option Elab.async false
set_option linter.all false
set_option maxRecDepth 100000
namespace DL
open PySem PySem.Spec PyProof.Rows L2
/-! ### defs that are called where nothing is under way of repr: what they promise there -/
structure FnG (P : Program) (w : World) (K : PySem.W.Frag) (mg : Str → Option Value) (base : Heap) (k : Nat) (f : Addr) (fd : FuncData) (ps : List Str) (sp : Sp) : Prop where
  len : ∀ vs H Q E, sp vs H Q E → vs.length = ps.length
  run : ∀ (A : Around) (outer : List Env) (s : Shared) (H : Hp) (args : Args) (us : List Value) (vs : List V) (Q : VK), A.guards = some [] → Room k A → Env0 P w K mg base A outer s H → BindsTo s fd args (ps.zip us) → Vals vs us → sp vs H Q E0 →
    codeAny (model P w) A (.call (.ref f) args) (CR CX0 outer P w H s Q E0) s
section
variable {P : Program} {w : World} {K : PySem.W.Frag} {mg : Str → Option Value} {base : Heap}
theorem Fun.okG {x qual : Str} {st : Stmt} {f : Addr} {fd : FuncData} {N ps : List Str} {k : Nat} {sp : Sp} (F : Fun K x qual st f fd) (S : FnScope N ps (defScope st)) (len : ∀ vs H Q E, sp vs H Q E → vs.length = ps.length)
    (hbody : ∀ (cdv : Value) (A : Around) (outer : List Env) (s : Shared) (H : Hp) (vs : List V) (Q : VK), Room k (A.deeper (envOfC qual (defScope st) s.heap.objs.size f cdv)) → A.guards = some [] → sp vs H Q E0 →
      ∃ t, PSs (cxOf CX0 P w K mg base N qual (defScope st) f cdv A outer s H E0).nox (defBody st) t ∧ t { nx := fun _ H' => Q .non H', rt := Q } (start N vs) H) : FnG P w K mg base (k + 1) f fd ps sp := by
  obtain ⟨oc, od, kV, doc, pm, an, cdv, ct, osl, rfl, lk, hcd⟩ := F.ex
  refine ⟨len, fun A outer s H args us vs Q hG hr e0 hb r hsp => ?_⟩
  have hl := len _ _ _ _ hsp
  have stays : ∀ b o, base.get? b = some o → s.heap.get? b = some o := fun b o e => (e0.bs b o e).1
  have KX : K.In s.heap := e0.mod.kin.keeps stays
  have lim : s.heap.NoLimit := e0.mod.nolimit.keeps stays
  have hkind : ∀ y ∈ ps.zip us, (defScope st).names.lookup y.1 = some .local ∨ ((defScope st).names.lookup y.1 = some .cell ∧ ((cellsFrom (s.heap.objs.size + 1) (defScope st).names []).lookup y.1).isSome = true) := fun ⟨n, v⟩ hy =>
    (S.par n (List.of_mem_zip hy).1).imp id fun q => ⟨q, PySem.W.cellsFrom_some _ _ _ (.inl q)⟩
  refine codeAny_call_function hr.depth (KX _ _ lk) rfl S.co S.gen rfl (PySem.W.codeRec_of KX hcd) (hb _ _ _ _ ?_)
  refine wpAny_newFunctionEnv_cells S.kind hkind fun env he s1 x => ?_
  subst he
  refine ⟨lim.keeps x.toInCall.keep, codeAny_func ?_⟩
  obtain ⟨t, ht, hq⟩ := hbody cdv A outer s H vs Q (hr.deeper _) hG hsp
  have I : Inv (cxOf CX0 P w K mg base N qual (defScope st) f cdv A outer s H E0) [] (start N vs) H s1 := inv_start S hr.hd e0 hl r x
  refine wpAny_mono (ht.nox.run [] s1 (start N vs) H _ I hq) (fun fl s' hs => ?_) fun e s' hs => hs
  cases fl with
  | ret u =>
    obtain ⟨v, σ', H', J, rv, q⟩ := hs
    exact ⟨v, H', J.os, J.bare, J.base, J.hok, rv, q⟩
  | next =>
    obtain ⟨σ', H', J, q⟩ := hs
    exact ⟨V.non, H', J.os, J.bare, J.base, J.hok, rfl, q⟩
  | brk =>
    obtain ⟨_, _, _, q⟩ := hs
    exact False.elim q
  | cont =>
    obtain ⟨_, _, _, q⟩ := hs
    exact False.elim q
theorem okDG {x qual : Str} {st : Stmt} {f : Addr} {fd : FuncData} {N ps : List Str} {k : Nat} {g : GC} (F : Fun K x qual st f fd) (S : FnScope N ps (defScope st)) (len : ∀ ds μ R, g ds μ R → ds.length = ps.length)
    (h : ∃ gb : GS, (∀ (cdv : Value) (A : Around) (outer : List Env) (s : Shared) (H : Hp), Room k (A.deeper (envOfC qual (defScope st) s.heap.objs.size f cdv)) → A.guards = some [] →
        DSs (cxOf CX0 P w K mg base N qual (defScope st) f cdv A outer s H E0).nox (defBody st) gb) ∧
      ∀ ds μ R, g ds μ R → gb { nx := fun _ μ' => R .non μ', rt := R } (begin_ N ds) μ) : FnG P w K mg base (k + 1) f fd ps (toSp K g) := by
  obtain ⟨gb, hb, hg⟩ := h
  refine Fun.okG F S (fun vs H Q E ⟨ds, μ, R, rm, rl, q, fw⟩ => by rw [rl.length]; exact len ds μ R q) fun cdv A outer s H vs Q hr hG ⟨ds, μ, R, rm, rl, q, fw⟩ => ?_
  obtain ⟨t, a, b⟩ := (hb cdv A outer s H hr hG).ex
  refine ⟨t, a, b _ H (begin_ N ds) μ _ { nx := fun _ μ' => R .non μ', rt := R } rm ?_ ⟨fun σ H' δ μ' k rm' _ q' => fw .non .non H' μ' k rm' (by unfold Rep; rfl) q', fw, fun _ _ _ _ _ _ _ z => z, fun _ _ _ _ _ _ _ z => z⟩ (hg ds μ R q)⟩
  show RepS K H μ (ds.map some ++ List.replicate (N.length - ds.length) none) (vs.map some ++ List.replicate (N.length - vs.length) none)
  rw [rl.length]
  exact repS_some _ rl
end
/-! ### calls of them -/
/-! ### the law's call -/
theorem caller_guards : callerA.guards = some [] := rfl
section
variable {P : Program} {w : World} {K : PySem.W.Frag} {mg mb : Str → Option Value} {k : Nat} {fa a : Addr} {fd : FuncData} {x : Str} {g : GC} {s₁ : Shared} {vs : List Value} {ns : List Int}
theorem law_callD (KX : K.In s₁.heap) (hns : s₁.heap.Ns mainGlobals mg) (hb : s₁.heap.Ns builtinsNs mb) (hbb : ∀ x : Str, x ≠ "__name__" → mb x = bootBuiltins x) (hlim : s₁.heap.NoLimit) (hg : s₁.gens = #[])
    (ha : s₁.heap.get? a = some { cls := .type "list", data := .seq vs.toArray }) (hi : IntsAre vs ns) (hl : ns.length ≤ sizeLine) (hr : Room k callerA)
    (F : ∀ base : Heap, K.In base → base.Ns mainGlobals mg → FnG P w K mg base k fa fd [x] (toSp K g)) (hbind : ∀ (s : Shared) (u : Value), BindsTo s fd ⟨[u], []⟩ [(x, u)])
    (hsp : g [.seq (ns.map D.int)] (fun _ => none) fun d _ => d = .bl true) :
    codeAny (model P w) callerA (.call (.ref fa) ⟨[.ref a], []⟩) (fun r s' => r = .ok (.ret (.bool true)) ∧ OldK s₁.heap s'.heap ∧ s'.os = s₁.os ∧ AllBare s'.gens) s₁ := by
  have key : ∀ H : Hp, Only H → SqL K H a (ns.map V.int) → toSp K g [.ref a] H (fun v _ => v = .bl true) fun _ _ _ => False := fun H hO hS => by
    have rm : RM K H (fun _ => none) := fun b o e => nomatch e
    refine ⟨[.seq (ns.map D.int)], fun _ => none, fun d _ => d = .bl true, rm, ?_, hsp, fun v d H' μ' _ _ r e => ?_⟩
    · refine RepL.cons ?_ RepL.nil
      unfold Rep
      refine ⟨a, ns.map V.int, rfl, ?_, RepL.of_ints ns⟩
      rcases hS with h | h
      · exact .inl ⟨h, rfl⟩
      · exact .inr fun H' => .inr h
    · subst e
      exact rep_bl r
  have rv := vals_ints hi
  have lenV := hi.length
  have core : ∀ H : Hp, Only H → SqL K H a (ns.map V.int) → HOk P w H s₁.heap → (∀ b, H b ≠ none → b = a) → (H a ≠ none → K.lookup a = none) →
      codeAny (model P w) callerA (.call (.ref fa) ⟨[.ref a], []⟩) (fun r s' => r = .ok (.ret (.bool true)) ∧ OldK s₁.heap s'.heap ∧ s'.os = s₁.os ∧ AllBare s'.gens) s₁ := by
    intro H hO hS hok hA hK
    have free : ∀ {b : Addr}, b ≠ a → H b = none := fun {b} n => Classical.byContradiction fun q => n (hA b q)
    have nsK : ∀ {b : Addr} {m : Str → Option Value}, s₁.heap.Ns b m → (hidT s₁.heap H).Ns b m := fun {b m} ⟨o, es, ep, e, d, r⟩ =>
      ⟨o, es, ep, hidT_get e (free fun z => by
        subst z
        rw [ha] at e
        cases e
        cases d), d, r⟩
    have hKb : K.In (hidT s₁.heap H) := fun b o e => hidT_get (KX b o e) (Classical.byContradiction fun q => by
      have z := hA b q
      subst z
      rw [hK q] at e
      cases e)
    obtain ⟨mc, l1, l2⟩ := hlim
    have hM : Mod K mg (hidT s₁.heap H) := ⟨hKb, nsK hns, ⟨mb, nsK hb, hbb⟩, ⟨mc, nsK l1, l2⟩⟩
    have e0 : Env0 P w K mg (hidT s₁.heap H) callerA [] s₁ H := ⟨rfl, hM, fun b o e => of_hidT e, Nat.le_of_eq (hidT_size _ _), trivial, fun b hb => absurd (show b ∈ ([] : List Addr) from hb) (by simp), hok, .of_eq hg⟩
    refine codeAny_mono ((F _ hKb (nsK hns)).run callerA [] s₁ H ⟨[.ref a], []⟩ [.ref a] [.ref a] _ caller_guards hr e0 (hbind s₁ (.ref a)) (.cons rfl .nil) (key H hO hS)) fun r s' h => ?_
    cases r with
    | error e => exact h.elim
    | ok fl =>
      cases fl with
      | next => exact False.elim h
      | brk => exact False.elim h
      | cont => exact False.elim h
      | ret u =>
        obtain ⟨v, H', os, bare, un, hok', r', q⟩ := h
        have q' : v = .bl true := q
        subst q'
        obtain rfl : u = Value.bool true := r'
        refine ⟨rfl, OldK.of_keep fun b o e => ?_, os, bare⟩
        rcases hO b with z | ⟨ob, xs, z⟩
        · exact un.keep b o e z (fun z => absurd (show b ∈ ([] : List Addr) from z) (by simp)) (by simp)
        · obtain ⟨e1, _⟩ := hok b _ z
          obtain ⟨e2, _⟩ := hok' b _ (un.frzs b ob _ z)
          rw [e] at e1
          cases e1
          exact e2
  cases hk : K.lookup a with
  | some o =>
    have e := KX a o hk
    rw [ha] at e
    cases e
    exact core (fun _ => none) (fun _ => .inl rfl) (.inr ⟨_, vs.toArray, _, hk, rfl, rfl, rfl, by rw [List.size_toArray, lenV]; exact hl, by simpa using rv⟩) (fun b u z => nomatch z) (fun b z => absurd rfl z) fun z => absurd rfl z
  | none =>
    have at_ : ∀ b, (if b = a then some (HO.frz { cls := .type "list", data := .seq vs.toArray } (.lst (ns.map V.int))) else none) ≠ none → b = a := fun b z => Classical.byContradiction fun n => z (if_neg n)
    refine core (fun b => if b = a then some (.frz { cls := .type "list", data := .seq vs.toArray } (.lst (ns.map V.int))) else none) (fun b => ?_) (.inl (.inr ⟨{ cls := .type "list", data := .seq vs.toArray }, if_pos rfl⟩)) (fun b u z => ?_) at_ fun _ => hk
    · by_cases hb : b = a
      · exact .inr ⟨_, _, if_pos hb⟩
      · exact .inl (if_neg hb)
    · have hb : b = a := at_ b (fun q => by
        have z' := q.symm.trans z
        cases z')
      subst hb
      have z' := (if_pos rfl).symm.trans z
      cases z'
      exact ⟨ha, by rw [List.length_map]; exact hl, vs, _, rv, ha⟩
end
end DL
set_option Elab.async false
set_option linter.all false
set_option maxRecDepth 100000
namespace DL
open PySem PySem.Spec PyProof.Rows L2
/-! ### repr of nested tuples and lists -/
structure ShowOk (p : PyData) : Prop where
  lay : p.layable0 = true
  shrt : p.intsShort 13 = true
  show_ : p.showable = true
  nod : p.hasDict = false
  dp : p.depth ≤ 20
end DL
set_option Elab.async false
set_option linter.all false
set_option maxRecDepth 100000
namespace DL
open PySem PySem.Spec PyProof.Rows L2
/-! ### max, min of two texts -/
/-! ### a walk over a list or a tuple -/
def iBoth (K : PySem.W.Frag) (tl : TE) : TI := fun σ H R => tl σ H fun x H1 => ∃ a, x = .ref a ∧ (((∃ xs, SqL K H1 a xs) ∧ R (Itl K a) H1) ∨ ((∃ xs, SqT K H1 a xs) ∧ R (Itt K a) H1))
theorem pi_both {X : Cx} {tg l : Expr} {tl : TE} (hl : PE X l tl) : PI X tg l (iBoth X.K tl) := by
  refine ⟨fun pins s σ H R I h => ?_⟩
  refine thn (hl.run pins s σ H _ I h) fun v s1 ⟨x, H1, I1, r1, a, e, q1⟩ => ?_
  subst e
  cases r1
  have fp : ∀ b, b ∈ [s1.heap.objs.size] → FpOk X pins H1 b := fun b hb => by
    have e : b = s1.heap.objs.size := by simpa using hb
    subst e
    exact I1.fpOk (Nat.le_refl _) (I1.hok.fresh (Nat.le_refl _))
  rcases q1 with ⟨⟨xs, hq⟩, q⟩ | ⟨⟨xs, hq⟩, q⟩
  · obtain ⟨its, rv, p, hz⟩ := I1.list hq
    exact wpAny_pyIter_list p.isList ⟨s1.heap.objs.size, [s1.heap.objs.size], _, _, H1, rfl, I1.kept (t' := s1.toks) fun b o e => Heap.get?_push_of_some _ e, turn_list a _, ⟨_, Heap.get?_push_size _ rfl, rfl, rfl⟩, fp, q⟩
  · obtain ⟨its, rv, p, hz⟩ := I1.tuple hq
    exact wpAny_pyIter_tuple (show s1.heap.IsTuple a its.toArray from p) ⟨s1.heap.objs.size, [s1.heap.objs.size], _, _, H1, rfl, I1.kept (t' := s1.toks) fun b o e => Heap.get?_push_of_some _ e, turn_tuple a _, ⟨_, Heap.get?_push_size _ rfl, rfl, rfl⟩, fp, q⟩
def gItemsB (g : GE) : GI := fun δ μ R => g δ μ fun d μ1 => match d with
  | .lst ds => R ds μ1
  | .seq ds => R ds μ1
  | .tup ds => R ds μ1
  | _ => False
theorem walk_tupD {K : PySem.W.Frag} {a : Addr} {vs : List V} {ds : List D} {H : Hp} {μ : Mu} (im : ImT K H μ a vs) (rl : RepL K H μ ds vs) : WalkD K (Itt K a) ds H μ := by
  have e := rl.length
  rw [WalkD, ← e]
  refine (walk_tup (K := K) (a := a) (xs := vs)).mono (fun H' ⟨μ', k, _⟩ => (im.mono k).sq) fun i H' x H2 hi _ ⟨e1, e2⟩ μ' k rm => ?_
  subst e1
  obtain ⟨d, e3, r1⟩ := (rl.mono k).atV e2
  exact ⟨d, e3, r1, Kp.refl _ _, rm⟩
theorem di_both {X : Cx} {tg e : Expr} {g : GE} (h : DE X e g) : DI X tg e (gItemsB g) := by
  obtain ⟨t, a1, a2⟩ := h.ex
  refine ⟨_, pi_both a1, fun σ H δ μ Q R rm rs q f => ?_⟩
  refine a2 σ H δ μ _ _ rm rs q fun v d H1 μ1 k1 rm1 r1 q1 => ?_
  cases d <;> try exact False.elim q1
  · obtain ⟨a, vs, rfl, im, rl⟩ := rep_tup r1
    exact ⟨a, rfl, .inr ⟨⟨vs, im.sq⟩, f _ _ H1 μ1 k1 rm1 (walk_tupD im rl) q1⟩⟩
  · obtain ⟨a, vs, rfl, e1, e2, rl⟩ := rep_lst r1
    exact ⟨a, rfl, .inl ⟨⟨vs, SqL.of e1⟩, f _ _ H1 μ1 k1 rm1 (walk_seq (fun H' μ' k => SqL.of (k.k1 _ _ e1 e2)) rl) q1⟩⟩
  · obtain ⟨a, vs, rfl, im, rl⟩ := rep_seq r1
    exact ⟨a, rfl, .inl ⟨⟨vs, im.sq⟩, f _ _ H1 μ1 k1 rm1 (walk_seq (fun H' μ' k => (im.mono k).sq) rl) q1⟩⟩
end DL
set_option Elab.async false
set_option linter.all false
set_option maxRecDepth 100000
namespace DL
open PySem PySem.Spec PyProof.Rows L2
/-! ### comprehensions -/
theorem take_succ_get {α : Type} {l : List α} {i : Nat} {x : α} (h : l[i]? = some x) : l.take (i + 1) = l.take i ++ [x] := by
  rw [List.take_add_one, h]
  rfl
section
variable {gt : GG} {gc : GT} {ge : GE} {own : List Nat} {δ : DS} {μ1 : Mu} {R : KD} {items : List D}
/-- nothing changes but the new list -/
theorem lcb_pure (p : D → Bool) (f : D → D) (hl : items.length < sizeLine)
    (hx : ∀ x ∈ items, ∀ (μ' : Mu) (N : Mu → Prop) (Y : KD), (∀ b o, μ1 b = some o → μ' b = some o) → (p x = false → N μ') → (p x = true → Y (f x) μ') →
      gt x (wiped δ own) fun δ2 => gc δ2 μ' fun b μ2 => if b = true then ge δ2 μ2 Y else N μ2) (hr : R (.lst ((items.filter p).map f)) μ1) : LcB gt gc ge own δ R items μ1 := by
  refine ⟨fun a na => ?_⟩
  refine ⟨fun i μ' => μ' = put μ1 a (.lst (((items.take i).filter p).map f)), rfl, fun i x μ' hi e => ?_, fun μ' e => ?_⟩
  · subst e
    have ht := take_succ_get hi
    have hm : x ∈ items := List.mem_of_getElem? hi
    refine hx x hm _ _ _ (fun b o e => ?_) (fun hp => ?_) fun hp => ?_
    · rw [put_ne (fun z => by rw [z, na] at e; cases e)]
      exact e
    · show put μ1 a _ = put μ1 a _
      rw [ht, List.filter_append, List.filter_cons_of_neg (by rw [hp]; simp), List.filter_nil, List.append_nil]
    · refine ⟨_, put_same, ?_, ?_⟩
      · have : (((items.take i).filter p).map f).length ≤ items.length := by
          rw [List.length_map]
          exact Nat.le_trans (List.length_filter_le _ _) (by rw [List.length_take]; omega)
        omega
      · show put (put μ1 a _) a _ = put μ1 a _
        rw [put_put, ht, List.filter_append, List.filter_cons_of_pos hp, List.filter_nil, List.map_append]
        rfl
  · subst e
    refine ⟨_, put_same, ?_⟩
    rw [del_put na, List.take_length]
    exact hr
/-- no condition -/
theorem lcb_map (f : D → D) (hl : items.length < sizeLine)
    (hx : ∀ x ∈ items, ∀ (μ' : Mu) (Y : KD), (∀ b o, μ1 b = some o → μ' b = some o) → Y (f x) μ' → gt x (wiped δ own) fun δ2 => ge δ2 μ' Y) (hr : R (.lst (items.map f)) μ1) : LcB gt gYes ge own δ R items μ1 := by
  refine lcb_pure (fun _ => true) f hl (fun x hm μ' N Y k _ hy => hx x hm μ' Y k (hy rfl)) ?_
  rw [show items.filter (fun _ => true) = items from List.filter_eq_self.mpr fun _ _ => rfl]
  exact hr
/-- the other cells change with the turns: J i ys ν, ys the list so far, ν the store without it -/
theorem lcb_eff (J : Nat → List D → Mu → Prop) (hl : items.length < sizeLine) (h0 : J 0 [] μ1) (hlen : ∀ i ys ν, J i ys ν → ys.length ≤ i)
    (hx : ∀ i x, items[i]? = some x → ∀ (a : Addr) (ys : List D) (ν : Mu) (N : Mu → Prop) (Y : KD), ν a = none → J i ys ν → (∀ ν', ν' a = none → J (i + 1) ys ν' → N (put ν' a (.lst ys))) →
      (∀ y ν', ν' a = none → J (i + 1) (ys ++ [y]) ν' → Y y (put ν' a (.lst ys))) →
      gt x (wiped δ own) fun δ2 => gc δ2 (put ν a (.lst ys)) fun b μ2 => if b = true then ge δ2 μ2 Y else N μ2)
    (hr : ∀ ys ν, J items.length ys ν → R (.lst ys) ν) : LcB gt gc ge own δ R items μ1 := by
  refine ⟨fun a na => ?_⟩
  refine ⟨fun i μ' => ∃ ys ν, ν a = none ∧ J i ys ν ∧ μ' = put ν a (.lst ys), ⟨[], μ1, na, h0, rfl⟩, ?_, ?_⟩
  · rintro i x μ' hi ⟨ys, ν, nν, hj, rfl⟩
    have hi' : i < items.length := (List.getElem?_eq_some_iff.mp hi).1
    refine hx i x hi a ys ν _ _ nν hj (fun ν' n j => ⟨ys, ν', n, j, rfl⟩) fun y ν' n j => ⟨ys, put_same, ?_, ys ++ [y], ν', n, j, put_put⟩
    have := hlen i ys ν hj
    omega
  · rintro μ' ⟨ys, ν, nν, hj, rfl⟩
    refine ⟨ys, put_same, ?_⟩
    rw [del_put nν]
    exact hr ys ν hj
end
theorem sim_chain {K : PySem.W.Frag} {r r' : R2} {ta tb tc : TE} {g g' : G2} {ga gb gc : GE} (h : SimO K r g) (h' : SimO K r' g') (a2 : SimE K ta ga) (b2 : SimE K tb gb) (c2 : SimE K tc gc) : SimE K (tChain r r' ta tb tc) (gChain g g' ga gb gc) := by
  intro σ H δ μ Q R rm rs q f
  refine a2 σ H δ μ _ _ rm rs q fun v d H1 μ1 k1 rm1 r1 q1 => ?_
  refine b2 σ H1 δ μ1 _ _ rm1 (rs.mono k1) q1 fun v2 d2 H2 μ2 k2 rm2 r2 q2 => ?_
  refine h v v2 d d2 H2 μ2 _ _ rm2 (r1.mono k2) r2 q2 fun v3 d3 H3 μ3 k3 rm3 r3 q3 => ?_
  cases d3 <;> try exact False.elim q3
  rename_i k
  unfold Rep at r3
  refine ⟨k, r3, ?_⟩
  cases k with
  | false => exact f (.bl false) (.bl false) H3 μ3 (k1.trans (k2.trans k3)) rm3 (by unfold Rep; rfl) q3
  | true => exact c2 σ H3 δ μ3 _ _ rm3 (rs.mono (k1.trans (k2.trans k3))) q3 fun v4 d4 H4 μ4 k4 rm4 r4 q4 => h' v2 v4 d2 d4 H4 μ4 Q R rm4 (r2.mono (k3.trans k4)) r4 q4 (f.re (k1.trans (k2.trans (k3.trans k4))))
theorem dt_chain {X : Cx} {a b c : Expr} {ga gb gc : GE} {pos : Pos} {op op' : CmpOp} {r r' : R2} {g g' : G2} (ho : OpR X (compareOp op) r) (h : SimO X.K r g) (ho' : OpR X (compareOp op') r') (h' : SimO X.K r' g') (ha : DE X a ga) (hb : DE X b gb) (hc : DE X c gc)
    (hm : lastMarks [op, op'] [b, c] = false := by with_unfolding_all rfl) : DT X (.Compare a [op, op'] [b, c] pos) (gB (gChain g g' ga gb gc)) := by
  obtain ⟨t, a1, a2⟩ := ha.ex
  obtain ⟨u, b1, b2⟩ := hb.ex
  obtain ⟨w, c1, c2⟩ := hc.ex
  exact ⟨_, pt_chain ho ho' a1 b1 c1 hm, sim_b (sim_chain h h' a2 b2 c2)⟩
end DL
set_option Elab.async false
set_option linter.all false
set_option maxRecDepth 100000
namespace DL
open PySem PySem.Spec PyProof.Rows L2
/-! ### a comprehension whose list goes on as a cell -/
end DL
set_option Elab.async false
set_option linter.all false
set_option maxRecDepth 100000
namespace K10
open PySem PySem.Spec PyProof.Rows L2 DL
open Builtin.Str (occurrences subAt)
/-! ### where a sign stands first -/
theorem occ_stay (s sub : Str) (hi : Nat) : ∀ (l : List Nat) (st : Array Nat × Nat), 1 ≤ st.fst.size → (forIn l st (StrLaws.occBody s sub hi 1)).run.fst = st.fst
  | [], st, h => rfl
  | a :: l, st, h => by
    rw [List.forIn_cons]
    unfold StrLaws.occBody
    rw [if_neg (by omega)]
    exact occ_stay s sub hi l _ h
theorem occ_hit (s sub : Str) (hi : Nat) : ∀ (l : List Nat) (free i : Nat), (∀ j ∈ l, free ≤ j) → l.find? (fun j => decide (j + sub.length ≤ hi) && subAt s sub j) = some i →
    (forIn l ((#[] : Array Nat), free) (StrLaws.occBody s sub hi 1)).run.fst = #[i]
  | [], free, i, _, h => by cases h
  | a :: l, free, i, hf, h => by
    rw [List.forIn_cons]
    unfold StrLaws.occBody
    have ha : free ≤ a := hf a (List.mem_cons_self ..)
    by_cases hc : (decide (a + sub.length ≤ hi) && subAt s sub a) = true
    · have h' := (List.find?_cons_of_pos (p := fun j => decide (j + sub.length ≤ hi) && subAt s sub j) (l := l) (a := a) hc).symm.trans h
      cases h'
      have h1 := Bool.and_eq_true_iff.mp hc
      rw [if_pos ⟨⟨⟨by simp, ha⟩, of_decide_eq_true h1.1⟩, h1.2⟩]
      exact occ_stay s sub hi l _ (by simp)
    · have h := (List.find?_cons_of_neg (p := fun j => decide (j + sub.length ≤ hi) && subAt s sub j) (l := l) (a := a) hc).symm.trans h
      rw [if_neg (fun q => hc (by rw [decide_eq_true q.1.2, q.2]; rfl))]
      exact occ_hit s sub hi l free i (fun j hj => hf j (List.mem_cons_of_mem _ hj)) h
theorem find_range (p : Nat → Bool) : ∀ (n s i : Nat), s ≤ i → i < s + n → p i = true → (∀ j, s ≤ j → j < i → p j = false) → (List.range' s n).find? p = some i
  | 0, s, i, h1, h2, _, _ => by omega
  | n + 1, s, i, h1, h2, h3, h4 => by
    rw [List.range'_succ]
    by_cases e : s = i
    · subst e
      rw [List.find?_cons_of_pos h3]
    · rw [List.find?_cons_of_neg (by rw [h4 s (Nat.le_refl _) (by omega)]; simp)]
      exact find_range p n (s + 1) i (by omega) (by omega) h3 fun j hj => h4 j (by omega)
/-- the first place of a sign that is there -/
theorem occ_first {z : Str} {c : Nat} (h : c ∈ z.cps.toList) : occurrences z ⟨#[c]⟩ 0 z.length 1 = [z.cps.toList.idxOf c] := by
  rw [StrLaws.occ_eq]
  have hl : z.cps.toList.idxOf c < z.cps.toList.length := List.idxOf_lt_length_of_mem h
  have hl2 : z.cps.toList.length = z.length := by rw [Array.length_toList]; rfl
  have h1 : (⟨#[c]⟩ : Str).length = 1 := rfl
  have at_ : z.cps.toList[z.cps.toList.idxOf c]? = some c := by
    rw [List.getElem?_eq_getElem hl, List.getElem_idxOf hl]
  have f := find_range (fun j => decide (j + (⟨#[c]⟩ : Str).length ≤ z.length) && subAt z ⟨#[c]⟩ j) (z.length + 1 - 0) 0 (z.cps.toList.idxOf c) (Nat.zero_le _) (by omega) (by
      have := (StrLaws.subAt_one z c (z.cps.toList.idxOf c)).mpr at_
      show (decide _ && _) = true
      rw [this.2, decide_eq_true this.1]
      rfl) (fun j _ hj => by
      cases q : (decide (j + (⟨#[c]⟩ : Str).length ≤ z.length) && subAt z ⟨#[c]⟩ j) with
      | false => rfl
      | true =>
        have q' := Bool.and_eq_true_iff.mp q
        have := (StrLaws.subAt_one z c j).mp ⟨of_decide_eq_true q'.1, q'.2⟩
        have hjl : j < z.cps.toList.length := by omega
        rw [List.getElem?_eq_getElem hjl] at this
        have e : z.cps.toList[j] = c := Option.some.inj this
        have := List.not_of_lt_findIdx (p := fun x => x == c) (xs := z.cps.toList) (i := j) (by exact hj)
        rw [e] at this
        simp at this)
  rw [occ_hit z ⟨#[c]⟩ z.length _ 0 _ (fun j _ => Nat.zero_le j) f]
/-! ### marks -/
/-- one tie's step over the row of marks -/
def stepM (p r : List Nat) (y : Nat × Nat) : List Nat :=
  let a := r.getD (p.idxOf y.1) 0
  let b := r.getD (p.idxOf y.2) 0
  r.map fun x => if x = max a b then min a b else x
def marksL (p : List Nat) (ys : List (Nat × Nat)) : List Nat := ys.foldl (stepM p) p
theorem stepM_len (p r : List Nat) (y : Nat × Nat) : (stepM p r y).length = r.length := by
  unfold stepM
  rw [List.length_map]
theorem foldl_len (p : List Nat) : ∀ (ys : List (Nat × Nat)) (r : List Nat), (ys.foldl (stepM p) r).length = r.length
  | [], r => rfl
  | y :: ys, r => by
    rw [List.foldl_cons, foldl_len p ys, stepM_len]
theorem replL_one (m n : Nat) : ∀ l : List Nat, StrLaws.replL [m] [n] l = l.map fun x => if x = m then n else x
  | [] => by rw [StrLaws.replL_nil]; rfl
  | x :: l => by
    by_cases e : x = m
    · rw [StrLaws.replL_hit (by simp) (by rw [e]; rfl), List.map_cons, if_pos e]
      show [n] ++ StrLaws.replL [m] [n] l = _
      rw [replL_one m n l]
      rfl
    · rw [StrLaws.replL_miss (by
        intro h
        have h' : [x] = [m] := h
        exact e (by simpa using h')), List.map_cons, if_neg e, replL_one m n l]
theorem swapped_list (r : Str) (a b : Nat) : (swapped r a b).cps.toList = r.cps.toList.map fun x => if x = max a b then min a b else x := by
  unfold swapped
  by_cases e : a = b
  · rw [if_pos e]
    subst e
    have : (fun x => if x = max a a then min a a else x) = id := by
      funext x
      by_cases h : x = max a a
      · rw [if_pos h]
        show min a a = x
        omega
      · rw [if_neg h]
        rfl
    rw [this, List.map_id]
  · rw [if_neg e, StrLaws.replace_list (by show 1 ≤ 1; omega)]
    exact replL_one _ _ _
/-- a text of two signs as the pair of both -/
def ends (y : Str) : Nat × Nat := (y.cps.toList.getD 0 0, y.cps.toList.getD 1 0)
def toS (l : List Nat) : Str := ⟨l.toArray⟩
theorem toS_list (l : List Nat) : (toS l).cps.toList = l := by simp [toS]
theorem ofS (x : Str) : toS x.cps.toList = x := by
  cases x
  simp [toS]
theorem swapped_step {p r : List Nat} {y : Nat × Nat} {d0 d1 : Nat} (h0 : r.getD (p.idxOf y.1) 0 = d0) (h1 : r.getD (p.idxOf y.2) 0 = d1) : swapped (toS r) d0 d1 = toS (stepM p r y) := by
  rw [← ofS (swapped (toS r) d0 d1), swapped_list, toS_list]
  unfold stepM
  rw [h0, h1]
end K10
set_option Elab.async false
set_option linter.all false
set_option maxRecDepth 100000
namespace DL
open PySem PySem.Spec PyProof.Rows L2
/-! ### what is forgotten, or goes on as a list that nobody changes, at a return -/
structure Into (d : D) (μ : Mu) (d' : D) (μ' : Mu) : Prop where
  ok : ∀ (K : PySem.W.Frag) (H : Hp) (v : V), RM K H μ → Rep K H μ d v → Kp H μ H μ' ∧ RM K H μ' ∧ Rep K H μ' d' v
section
variable {d d1 d2 : D} {μ μ1 μ2 : Mu} {K : PySem.W.Frag} {H : Hp} {R : KD} {Q : VK}
theorem Into.refl : Into d μ d μ := ⟨fun K H v rm r => ⟨Kp.refl _ _, rm, r⟩⟩
theorem Into.trans (a : Into d μ d1 μ1) (b : Into d1 μ1 d2 μ2) : Into d μ d2 μ2 := ⟨fun K H v rm r => by
  obtain ⟨k1, rm1, r1⟩ := a.ok K H v rm r
  obtain ⟨k2, rm2, r2⟩ := b.ok K H v rm1 r1
  exact ⟨k1.trans k2, rm2, r2⟩⟩
theorem Into.drop (a : Addr) : Into d μ d (del μ a) := ⟨fun K H v rm r => ⟨Kp.drop, rm.drop, r.mono Kp.drop⟩⟩
theorem Into.frz {a : Addr} {ds : List D} (e : μ a = some (.lst ds)) : Into (.adr a) μ (.lst ds) (del μ a) := ⟨fun K H v rm r => by
  obtain ⟨vs, h1, h2⟩ := rm a _ e
  refine ⟨Kp.drop, rm.drop, ?_⟩
  unfold Rep at r ⊢
  exact ⟨a, vs, r, h1, del_same, h2.mono Kp.drop _ _⟩⟩
theorem Into.less (h : ∀ c o, μ1 c = some o → μ c = some o) : Into d μ d μ1 := ⟨fun K H v rm r => by
  have k : Kp H μ H μ1 := ⟨fun b o e _ => e, fun b e => by
    left
    intro z
    cases q : μ1 b with
    | none => exact e q
    | some o =>
      rw [h b o q] at z
      cases z⟩
  refine ⟨k, fun a o e => ?_, r.mono k⟩
  have q := rm a o (h a o e)
  cases o with
  | lst ds => obtain ⟨vs, h1, h2⟩ := q; exact ⟨vs, h1, h2.mono k _ _⟩
  | dct kvs => obtain ⟨vs, h1, h2⟩ := q; exact ⟨vs, h1, h2.mono k _ _⟩
  | dtt kvs => obtain ⟨vs, h1, h2⟩ := q; exact ⟨vs, h1, h2.mono k _ _⟩
  | lck kvs => obtain ⟨o, vs, h1, h2⟩ := q; exact ⟨o, vs, h1, h2.mono k _ _⟩
  | ftp ds => obtain ⟨o, vs, h1, d, h2⟩ := q; exact ⟨o, vs, h1, d, h2.mono k _ _⟩
  | ins C fs => obtain ⟨dx, vs, h1, h2⟩ := q; exact ⟨dx, vs, h1, h2.mono k _ _⟩⟩
def freed (R : KD) : KD := fun d μ => ∃ d' μ', Into d μ d' μ' ∧ R d' μ'
theorem freed_now (h : R d μ) : freed R d μ := ⟨d, μ, .refl, h⟩
theorem fw_freed (f : Fw K H μ R Q) : Fw K H μ (freed R) Q := fun v d H' μ' k rm r ⟨d', μ2, i, q⟩ => by
  obtain ⟨k2, rm2, r2⟩ := i.ok K H' v rm r
  exact f v d' H' μ2 (k.trans k2) rm2 r2 q
end
section
variable {P : Program} {w : World} {K : PySem.W.Frag} {mg : Str → Option Value} {base : Heap}
theorem okDF {x qual : Str} {st : Stmt} {f : Addr} {fd : FuncData} {N ps : List Str} {k : Nat} {g : GC} (F : Fun K x qual st f fd) (S : FnScope N ps (defScope st)) (len : ∀ ds μ R, g ds μ R → ds.length = ps.length)
    (h : ∃ gb : GS, (∀ (cdv : Value) (A : Around) (outer : List Env) (s : Shared) (H : Hp) (E : XK), Room k (A.deeper (envOfC qual (defScope st) s.heap.objs.size f cdv)) →
        DSs (cxOf CX0 P w K mg base N qual (defScope st) f cdv A outer s H E).nox (defBody st) gb) ∧
      ∀ ds μ R, g ds μ R → gb { nx := fun _ μ' => freed R .non μ', rt := freed R } (begin_ N ds) μ) : FnOk P w K mg base CX0 (k + 1) f fd ps (toSp K g) := by
  obtain ⟨gb, hb, hg⟩ := h
  refine F.ok S (fun vs H Q E ⟨ds, μ, R, rm, rl, q, fw⟩ => by rw [rl.length]; exact len ds μ R q) fun cdv A outer s H vs Q E hr ⟨ds, μ, R, rm, rl, q, fw⟩ => ?_
  obtain ⟨t, a, b⟩ := (hb cdv A outer s H E hr).ex
  have fw' := fw_freed fw
  refine ⟨t, a, b _ H (begin_ N ds) μ _ { nx := fun _ μ' => freed R .non μ', rt := freed R } rm ?_ ⟨fun σ H' δ μ' k rm' _ q' => fw' .non .non H' μ' k rm' (by unfold Rep; rfl) q', fw', fun _ _ _ _ _ _ _ z => z, fun _ _ _ _ _ _ _ z => z⟩ (hg ds μ R q)⟩
  show RepS K H μ (ds.map some ++ List.replicate (N.length - ds.length) none) (vs.map some ++ List.replicate (N.length - vs.length) none)
  rw [rl.length]
  exact repS_some _ rl
end
end DL
set_option Elab.async false
set_option linter.all false
set_option maxRecDepth 100000
namespace DL
open PySem PySem.Spec PyProof.Rows L2
/-! ### tuple * int, also once and no time -/
end DL
set_option Elab.async false
set_option linter.all false
set_option maxRecDepth 100000
namespace DL
open PySem PySem.Spec PyProof.Rows L2
/-! ### min, max of a list, of a tuple of ints; divmod by more -/
section
variable {prog : Program} {w : World} {A : Around} {E : Value → Shared → Prop} {s : Shared} {l : Addr} {xs : Array (Int × Tok)}
theorem iter_intTuple {Q : Value → Shared → Prop} (hl : s.heap.IsTuple l (intItems xs))
    (h : ∀ s₂ : Shared, s₂ = { s with heap := s.heap.push { cls := .type "tuple_iterator", data := .fields #[.ref l, .int 0 0] } } →
      (s₂.heap.get? s.heap.objs.size = some { cls := .type "tuple_iterator", data := .fields #[.ref l, .int 0 0] } ∧ s₂.heap.IsTuple l (intItems xs)) → (∀ b ∈ [s.heap.objs.size, l], b < s₂.heap.objs.size) → l ≠ s.heap.objs.size → Q (.ref s.heap.objs.size) s₂) :
    wpAny (model prog w) A (pyIter (.ref l)) Q E s := by
  have hlt : l < s.heap.objs.size := by obtain ⟨_, e, _⟩ := hl; exact Heap.lt_size e
  refine wpAny_pyIter_tuple hl (h _ rfl ⟨Heap.get?_push_size _ rfl, hl.push _⟩ (fun b hb => ?_) (Nat.ne_of_lt hlt))
  show b < (s.heap.push _).objs.size
  rw [Heap.size_push]
  rcases List.mem_cons.mp hb with rfl | hb
  · exact Nat.lt_succ_self _
  · rcases List.mem_cons.mp hb with rfl | hb
    · exact Nat.lt_succ_of_lt hlt
    · cases hb
theorem old_keptT {h' : Heap} (hk : ∀ b o, b ∉ [s.heap.objs.size] → (s.heap.push { cls := .type "tuple_iterator", data := .fields #[.ref l, .int 0 0] }).get? b = some o → h'.get? b = some o) :
    ∀ b o, s.heap.get? b = some o → h'.get? b = some o := fun b o e => by
  refine hk b o (fun hm => ?_) (Heap.get?_push_of_some _ e)
  rcases List.mem_cons.mp hm with e1 | hm
  · exact absurd (e1 ▸ Heap.lt_size e) (Nat.lt_irrefl _)
  · cases hm
theorem min_intTuple {Q : Value → Shared → Prop} (hh : A.handled = none) (hl : s.heap.IsTuple l (intItems xs)) (hne : 0 < xs.size)
    (h : ∀ v h' tk, (intItems xs)[argBest (fun i j => decide (numAt xs i < numAt xs j)) (xs.size - 1)]? = some v → (∀ b o, s.heap.get? b = some o → h'.get? b = some o) → Q v { s with heap := h', toks := tk }) :
    wpAny (model prog w) A (call (.builtin "min") [.ref l]) Q E s := by
  refine call_min_walk (iter_intTuple hl fun s₂ e st hfp hlI => ?_)
  subst e
  refine ⟨_, [_, l], [_], _, _, _, _, rfl, Walks.tuple (A := A.in1) hh _ l hlI (intItems xs), ⟨⟨_, st.1, rfl, rfl⟩, st.2⟩, hfp, by simpa [intItems] using hne, CmpOf.ints_lt (numAt xs) (fun _ _ => intItems_at), fun v h' tk hP hk => ?_⟩
  exact h v h' tk (by simpa [intItems] using hP) (old_keptT hk)
end
section
variable {prog : Program} {w : World} {A : Around} {E : Value → Shared → Prop} {s : Shared} {l : Addr} {its : List Value} {ns : List Int} {Q : Value → Shared → Prop}
theorem min_rawT (hh : A.handled = none) (hl : s.heap.IsTuple l its.toArray) (hi : IntsAre its ns) (hne : 0 < ns.length)
    (h : ∀ h' tk M t', (∀ b o, s.heap.get? b = some o → h'.get? b = some o) → M ∈ ns → (∀ a, a ∈ ns → M ≤ a) → Q (.int M t') { s with heap := h', toks := tk }) : wpAny (model prog w) A (call (.builtin "min") [.ref l]) Q E s := by
  obtain ⟨xs, e⟩ := hi.allInts.items
  have hn : numsOf (intItems xs).toList = ns := by rw [← e]; exact hi.numsOf
  rw [nums_intItems] at hn
  subst hn
  rw [e] at hl
  have hsz : 0 < xs.size := by simpa using hne
  refine min_intTuple hh hl hsz fun v h' tk hv hk => ?_
  obtain ⟨t, rfl⟩ := intItems_at hv
  obtain ⟨h1, h2⟩ := argBest_lt (numAt xs) (xs.size - 1)
  refine h h' tk _ t hk ?_ fun a ha => ?_
  · rw [numAt_eq]; exact PySem.getD_mem (by rw [List.length_map, Array.length_toList]; omega)
  · obtain ⟨j, hj, rfl⟩ := mem_getD ha
    rw [List.length_map, Array.length_toList] at hj
    rw [← numAt_eq]; exact h2 j (by omega)
end
def rMinA (K : PySem.W.Frag) : List V → Hp → VK → Prop := fun vs H Q => ∃ (a : Addr) (ns : List Int), vs = [V.ref a] ∧ (SqL K H a (ns.map V.int) ∨ SqT K H a (ns.map V.int)) ∧ 0 < ns.length ∧ ∀ m, m ∈ ns → (∀ y, y ∈ ns → m ≤ y) → Q (.int m) H
theorem cr_minA {X : Cx} (hc : X.calm = true) : CallR X (.builtin "min") (rMinA X.K) := by
  intro pins s σ H vs us Q I r h
  obtain ⟨a, ns, rfl, hs | hs, hne, q⟩ := h
  · exact cr_min hc pins s σ H [V.ref a] us Q I r ⟨a, ns, rfl, hs, hne, q⟩
  · obtain ⟨its, rv, hl, _⟩ := I.tuple hs
    rw [Vals.ref1 r]
    exact min_rawT (I.ok.hd hc) hl rv.ints hne fun h' tk m t' hk h1 h2 => ⟨.int _, H, I.kept hk, ⟨_, rfl⟩, q m h1 h2⟩
/-- the ints of a list, a tuple, a cell -/
def intsAt (x : D) (μ : Mu) (R : List Int → Prop) : Prop := match x with
  | .lst ds => ∃ ns, ds = List.map D.int ns ∧ R ns
  | .seq ds => ∃ ns, ds = List.map D.int ns ∧ R ns
  | .tup ds => ∃ ns, ds = List.map D.int ns ∧ R ns
  | .adr a => ∃ ns, μ a = some (.lst (List.map D.int ns)) ∧ R ns
  | _ => False
theorem intsAt_seq {K : PySem.W.Frag} {H : Hp} {μ : Mu} {d : D} {v : V} {R : List Int → Prop} (rm : RM K H μ) (rv : Rep K H μ d v) (q : intsAt d μ R) : ∃ a ns, v = .ref a ∧ (SqL K H a (ns.map V.int) ∨ SqT K H a (ns.map V.int)) ∧ R ns := by
  cases d <;> try exact False.elim q
  · obtain ⟨ns, rfl, q⟩ := q
    obtain ⟨p, vs, rfl, i, l⟩ := rep_tup rv
    exact ⟨p, ns, rfl, .inr (by rw [← l.ints]; exact i.sq), q⟩
  · obtain ⟨ns, rfl, q⟩ := q
    obtain ⟨p, vs, rfl, i, _, l⟩ := rep_lst rv
    exact ⟨p, ns, rfl, .inl (by rw [← l.ints]; exact SqL.of i), q⟩
  · obtain ⟨ns, rfl, q⟩ := q
    obtain ⟨p, vs, rfl, i, l⟩ := rep_seq rv
    exact ⟨p, ns, rfl, .inl (by rw [← l.ints]; exact i.sq), q⟩
  · obtain ⟨ns, e0, q⟩ := q
    obtain ⟨vs, h1, l⟩ := rm _ _ e0
    exact ⟨_, ns, rep_adr rv, .inl (by rw [← l.ints]; exact SqL.of h1), q⟩
def gMin1 : G1 := fun x μ R => intsAt x μ fun ns => ns ≠ [] ∧ ∀ m ∈ ns, (∀ y ∈ ns, m ≤ y) → R (.int m) μ
theorem sim_min1 {K : PySem.W.Frag} : SimC K (rMinA K) (g1 gMin1) := sim_g1 fun v d H μ Q R rm rv q f => by
  obtain ⟨a, ns, rfl, hs, hne, q⟩ := intsAt_seq rm rv q
  exact ⟨a, ns, rfl, hs, List.length_pos_iff.mpr hne, fun m h1 h2 => fw_now rm to_int (q m h1 h2) f⟩
/-- divmod by what is below 2 ** 64 -/
def gDivmodW2 : G2 := fun x y μ R => match x, y with
  | .int i, .int j => (0 < j ∧ j < 2 ^ 64) ∧ R (.tup [.int (i / j), .int (i % j)]) μ
  | _, _ => False
theorem noPy64 {i j : Int} (h0 : 0 < j) (h : j < 2 ^ 64) : Builtin.divisionGoesByPylong i j = false := by
  refine PyProof.noPylong_of_log2 ?_
  by_cases e : j.natAbs = 0
  · omega
  · exact Nat.lt_trans ((Nat.log2_lt e).mpr (show j.natAbs < 2 ^ 64 by omega)) (by decide)
theorem sim_divmodW2 {K : PySem.W.Frag} : SimC K (fun xs H Q => ∃ i j, xs = [.int i, .int j] ∧ CDivP i j ∧ ∀ p, H p = none → Q (.ref p) (upd H p (.tup [.int (i / j), .int (i % j)]))) (g2 gDivmodW2) := sim_g2 fun v w d e H μ Q R rm rv rw q f => by
  cases d <;> cases e <;> try exact False.elim q
  rename_i i j
  rw [rep_int rv, rep_int rw]
  obtain ⟨⟨h0, h1⟩, q⟩ := q
  exact ⟨i, j, rfl, ⟨h0, noPy64 h0 h1⟩, fun t n => fw_tup rm n (RepL.cons to_int (RepL.cons to_int RepL.nil)) q f⟩
/-! ### count, index of a list of ints -/
def okLst : D → Mu → Prop := fun d _ => match d with
  | .lst _ => True
  | .seq _ => True
  | _ => False
theorem ok_lst {K : PySem.W.Frag} : OkTy K "list" okLst := fun v d H μ rm r h => by
  cases d <;> try exact False.elim h
  · obtain ⟨p, vs, rfl, i, _, l⟩ := rep_lst r
    exact .inl ⟨rfl, _, SqL.of i⟩
  · obtain ⟨p, vs, rfl, i, l⟩ := rep_seq r
    exact .inl ⟨rfl, _, i.sq⟩
/-! ### defs as values -/
/-! ### minus -/
def gNeg : G1 := fun x μ R => match x with
  | .int i => R (.int (-i)) μ
  | _ => False
theorem sim_neg {K : PySem.W.Frag} : SimU K (rU fun i => .int (-i)) gNeg := by
  intro x dx H μ Q R rm rx q f
  cases dx <;> try exact False.elim q
  rw [rep_int rx]
  exact ⟨_, rfl, fw_now rm to_int q f⟩
/-! ### two in the other order -/
def swp2 {α : Type} : List α → List α
  | [a, b] => [b, a]
  | l => l
theorem swp2_rep {K : PySem.W.Frag} {H : Hp} {μ : Mu} {ds : List D} {vs : List V} (h : RepL K H μ ds vs) (l : ds.length = 2) : RepL K H μ (swp2 ds) (swp2 vs) := by
  obtain ⟨a, b, rfl⟩ : ∃ a b, ds = [a, b] := by
    cases ds with
    | nil => cases l
    | cons a ds =>
      cases ds with
      | nil => cases l
      | cons b ds =>
        cases ds with
        | nil => exact ⟨a, b, rfl⟩
        | cons c ds => cases l
  obtain ⟨v, w, rfl, r1, r2⟩ := repL2 h
  exact RepL.cons r2 (RepL.cons r1 RepL.nil)
theorem swp2_vals {zs : List V} {ws : List Value} (h : Vals zs ws) : Vals (swp2 zs) (swp2 ws) := by
  cases h with
  | nil => exact .nil
  | cons a h =>
    cases h with
    | nil => exact .cons a .nil
    | cons b h =>
      cases h with
      | nil => exact .cons b (.cons a .nil)
      | cons c h => exact .cons a (.cons b (.cons c h))
/-! ### int * int, tuple * int -/
theorem RepL.rep {K : PySem.W.Frag} {H : Hp} {μ : Mu} {ds : List D} {vs : List V} (l : RepL K H μ ds vs) : ∀ m, RepL K H μ (List.replicate m ds).flatten (List.replicate m vs).flatten
  | 0 => RepL.nil
  | m + 1 => by
    rw [List.replicate_succ, List.replicate_succ, List.flatten_cons, List.flatten_cons]
    exact l.append (RepL.rep l m)
end DL
set_option Elab.async false
set_option linter.all false
set_option maxRecDepth 100000
namespace DL
open PySem PySem.Spec PyProof.Rows L2
/-! ### x in l of nested data; sorted of ints; three the other way round -/
end DL
set_option Elab.async false
set_option linter.all false
set_option maxRecDepth 100000
namespace DL
open PySem PySem.Spec PyProof.Rows L2
/-! ### repr, also of None -/
end DL
set_option Elab.async false
set_option linter.all false
set_option maxRecDepth 100000
namespace DL
open PySem PySem.Spec PyProof.Rows L2
/-! ### list * int as a new cell; cell[i] op= e -/
def gRepC : G2 := fun x y μ R => match x, y with
  | .lst ds, .int k => (0 ≤ k ∧ k ≤ 1000 ∧ ds.length ≤ 1000) ∧ ∀ a, μ a = none → R (.adr a) (put μ a (.lst (List.replicate k.toNat ds).flatten))
  | _, _ => False
theorem sim_repC {K : PySem.W.Frag} : SimO K rRep gRepC := by
  intro x y dx dy H μ Q R rm rx ry q f
  cases dx <;> cases dy <;> try exact False.elim q
  rename_i ds k
  obtain ⟨⟨h1, h2, h3⟩, q⟩ := q
  obtain ⟨p, vs, rfl, i, _, l⟩ := rep_lst rx
  rw [rep_int ry]
  refine ⟨p, k, vs, rfl, rfl, i, by omega, by omega, ?_, fun a n => fw_cell rm n (RepL.rep l k.toNat) q f⟩
  rw [l.length, sizeLine_eq]
  have : ds.length * k.toNat ≤ 1000 * 1000 := Nat.mul_le_mul h3 (by omega)
  omega
def rGetL (K : PySem.W.Frag) : V → V → Hp → VK → Prop := fun x y H Q => ∃ p xs i v, x = .ref p ∧ y = .int i ∧ SqL K H p xs ∧ 0 ≤ i ∧ L2.atI xs i = some v ∧ Q v H
theorem pget_list {X : Cx} : PGet X (rGetL X.K) := by
  intro pins s σ H x y v u Q I rx ry h
  obtain ⟨p, xs, i, z, rfl, rfl, hq, h0, he, q⟩ := h
  cases rx
  obtain ⟨t, rfl⟩ := ry
  obtain ⟨its, r, pl, hz⟩ := I.list hq
  obtain ⟨j, h1, h2, h3, h4, h5⟩ := atI_get he
  obtain ⟨w, ew, rw'⟩ := r.get h2
  have hl := r.length
  have hn := line63
  have fin : EP X pins σ Q w s := ⟨z, H, I, rw', q⟩
  have hj : i.toNat = j := by
    rw [seqIndex_of h0 h5] at h1
    exact Option.some.inj h1
  exact wpAny_getItem_list (Q := EP X pins σ Q) pl.isList h0 (by omega) (by rw [hj]; simpa using ew) fin
section
variable {X : Cx}
def gAugS (go gi ge : GE) (g2 : G2) : GS := fun F δ μ => go δ μ fun x μ1 => gi δ μ1 fun i μ2 => ∃ (a : Addr) (k : Nat) (ds : List D) (d : D), x = .adr a ∧ i = .int (k : Nat) ∧ μ2 a = some (.lst ds) ∧ ds[k]? = some d ∧
  ge δ μ2 fun y μ4 => g2 d y μ4 fun z μ5 => setK (.adr a) (.int (k : Nat)) z μ5 fun μ6 => F.nx δ μ6
theorem ds_augS {o i e : Expr} {op : Operator} {tip : TIp} {go gi ge : GE} {g2 : G2} {tpos pos : Pos} (ho : DE X o go) (hi : DE X i gi) (he : DE X e ge) (hp : PIp X op tip) (h : SimO X.K tip g2)
    (ha : ∀ ov iv new, augStore i ov iv new = (do holding [new, ov, iv] (setItem ov iv new); release [new, ov, iv] []; pure .next) := by intros; rfl) : DSt X (.AugAssign (.Subscript o i tpos) op e pos) (gAugS go gi ge g2) := by
  obtain ⟨t1, a1, a2⟩ := ho.ex
  obtain ⟨t2, b1, b2⟩ := hi.ex
  obtain ⟨t3, c1, c2⟩ := he.ex
  refine ⟨_, ps_augS a1 b1 pget_list c1 hp set_list ha, fun σ H δ μ E F rm rs ee q => ?_⟩
  refine a2 σ H δ μ _ _ rm rs q fun x dx H1 μ1 k1 rm1 r1 q1 => ?_
  refine b2 σ H1 δ μ1 _ _ rm1 (rs.mono k1) q1 fun y dy H2 μ2 k2 rm2 r2 q2 => ?_
  obtain ⟨a, k, ds, d, rfl, rfl, e0, hd, q2⟩ := q2
  obtain ⟨vs, e1, l⟩ := rm2 a _ e0
  obtain ⟨w, ew, rw'⟩ := l.at_ hd
  have hk : k < ds.length := (List.getElem?_eq_some_iff.mp hd).1
  have ei : L2.atI vs ((k : Nat) : Int) = some w := atI_nat ew
  refine ⟨a, vs, (k : Nat), w, rep_adr (r1.mono k2), rep_int r2, SqL.of e1, by omega, ei, ?_⟩
  have k12 := k1.trans k2
  refine c2 σ H2 δ μ2 _ _ rm2 (rs.mono k12) q2 fun y dy H3 μ3 k3 rm3 r3 q3 => ?_
  refine h w y d dy H3 μ3 _ _ rm3 (rw'.mono k3) r3 q3 fun z dz H4 μ4 k4 rm4 r4 q4 => ?_
  obtain ⟨es, j, e4, ej, q4⟩ := q4
  obtain ⟨us, e5, l5⟩ := rm4 a _ e4
  have kw : Kp H4 μ4 (upd H4 a (.lst (us.set j z))) (put μ4 a (.lst (es.set j dz))) := Kp.write e4
  have kall := k12.trans (k3.trans (k4.trans kw))
  refine ⟨a, us, (k : Nat), j, rep_adr (r1.mono k2), rep_int r2, e5, by rw [l5.length]; exact ej, ?_⟩
  refine ee.nx σ _ δ _ kall ?_ (rs.mono kall) q4
  exact rm4.put (m := .lst (es.set j dz)) kw (fun b o n _ => upd_ne n) ⟨_, upd_same, (l5.set j r4).mono kw _ _⟩
end
end DL
set_option Elab.async false
set_option linter.all false
set_option maxRecDepth 100000
namespace DL
open PySem PySem.Spec PyProof.Rows L2
/-! ### gcd, comb by the module's names -/
def rComb : List V → Hp → VK → Prop := fun vs H Q => ∃ a b : Int, vs = [.int a, .int b] ∧ 0 ≤ a ∧ a ≤ 18000 ∧ 0 ≤ b ∧ Q (.int (PySem.W.mcComb a b)) H
theorem cr_comb {X : Cx} : CallR X (.builtin "math.comb") rComb := by
  intro pins s σ H vs us Q I r h
  obtain ⟨a, b, rfl, h1, h2, h3, q⟩ := h
  obtain ⟨t, u, rfl⟩ := Vals.int2 r
  exact PySem.W.mc_comb h1 h3 (by omega) (.inr h2) fun _ => ⟨.int _, H, I.tok _, ⟨_, rfl⟩, q⟩
def gComb2 : G2 := fun x y μ R => match x, y with
  | .int a, .int b => (0 ≤ a ∧ a ≤ 18000 ∧ 0 ≤ b) ∧ R (.int (PySem.W.mcComb a b)) μ
  | _, _ => False
theorem sim_comb {K : PySem.W.Frag} : SimC K rComb (g2 gComb2) := sim_g2 fun v w d e H μ Q R rm rv rw q f => by
  cases d <;> cases e <;> try exact False.elim q
  rename_i i j
  rw [rep_int rv, rep_int rw]
  exact ⟨i, j, rfl, q.1.1, q.1.2.1, q.1.2.2, fw_now rm to_int q.2 f⟩
section
variable {X : Cx} {x : Str} {p pos : Pos} {e : Expr} {es : List Expr} {ga : GA} {id : String} {r : List V → Hp → VK → Prop} {g : GC}
theorem de_callBf (hc : CallR X (.builtin id) r) (h : SimC X.K r g) (hg : Gl X x) (hm : X.mg x = some (.builtin id)) (ha : DA X (e :: es) ga) (hdb : (x == ("__debug__" : Str)) = false := by decide)
    (he : starEach (e :: es) X.env = (false, eval e X.env) :: starEach es X.env := by rfl) (hpl : (backTo pos (starEach es X.env)).any (·.1) = false := by rfl) : DE X (.Call (.Name x p) (e :: es) [] pos) (gCall g ga) := by
  obtain ⟨t, a1, a2⟩ := ha.ex
  exact ⟨_, pe_callBfun hc hg hm a1 hdb he hpl, sim_cb h a2⟩
/-! ### enumerate of a list -/
def gEnumL (ga : GA) : GI := fun δ μ R => ga δ μ fun ds μ1 => match ds with
  | [.lst xs] => R (numbered xs) μ1
  | _ => False
theorem di_enumL {p pos tpos : Pos} {elts : List Expr} {kk : Nat} {ga : GA} {e : Expr} (hg : Gl X "enumerate") (hm : X.mg "enumerate" = none) (h : DA X [e] ga) (hs : starEach [e] X.env = [(false, eval e X.env)] := by rfl) :
    DI X (.Tuple elts kk tpos) (.Call (.Name "enumerate" p) [e] [] pos) (gEnumL ga) := by
  obtain ⟨t, a1, a2⟩ := h.ex
  refine ⟨_, pi_enum hg hm a1 hs, fun σ H δ μ Q R rm rs q f => ?_⟩
  refine a2 σ H δ μ _ _ rm rs q fun vs ds H1 μ1 k1 rm1 r1 q1 => ?_
  match ds, q1, r1 with
  | [.lst xs], q1, r1 =>
    obtain ⟨v, rfl, r2⟩ := repL1 r1
    obtain ⟨a, ys, rfl, hH, hn, rl⟩ := rep_lst r2
    have sq : ∀ {H' μ'}, Kp H1 μ1 H' μ' → SqL X.K H' a ys := fun k => SqL.of (k.k1 a _ hH hn)
    have hl : (numbered xs).length = ys.length := by rw [rl.length]; simp [numbered]
    refine ⟨a, ys, rfl, SqL.of hH, f _ (numbered xs) H1 μ1 k1 rm1 ?_ q1⟩
    refine ⟨fun i H' hi ⟨μ', k, _⟩ => ?_, fun H' ⟨μ', k, _⟩ => ⟨ys, sq k, by omega⟩, fun i H' v H2 hi _ y => ?_⟩
    · have h1 : i < ys.length := by rw [← hl]; exact hi
      exact ⟨ys, ys[i], sq k, by simp [h1]⟩
    · intro μ' k rm
      obtain ⟨T, x, rfl, nT, rfl, e4⟩ := y
      have ex := e4 ys (sq k)
      obtain ⟨d, e3, r3⟩ := (rl.mono k).atV ex
      have nm : μ' T = none := rm.free nT
      have k2 : Kp H' μ' (upd H' T (.tup [.int (i : Nat), x])) μ' := Kp.new nT
      refine ⟨.tup [.int (i : Nat), d], ?_, ?_, k2, rm.laid nT⟩
      · unfold numbered
        rw [List.getElem?_mapIdx, e3]
        rfl
      · unfold Rep
        exact ⟨T, _, rfl, .inl ⟨upd_same, nm⟩, by unfold RepL; exact ⟨_, _, rfl, by unfold Rep; rfl, by unfold RepL; exact ⟨_, _, rfl, r3.mono k2, RepL.nil⟩⟩⟩
end
end DL
set_option Elab.async false
set_option linter.all false
set_option maxRecDepth 100000
namespace PySem
open Sem (wp)
theorem typeCall_zip_n (args : List Value) : checkTypeCall "zip" ⟨args, []⟩ = pure () := by kernel_rfl
theorem newCall_zip_n : ∀ (args : List Value), args.length ≤ 13 → checkBuiltinCall "zip.__new__" ⟨.type "zip" :: args, []⟩ = pure ()
  | [], _ => by kernel_rfl
  | [_], _ => by kernel_rfl
  | [_, _], _ => by kernel_rfl
  | [_, _, _], _ => by kernel_rfl
  | [_, _, _, _], _ => by kernel_rfl
  | [_, _, _, _, _], _ => by kernel_rfl
  | [_, _, _, _, _, _], _ => by kernel_rfl
  | [_, _, _, _, _, _, _], _ => by kernel_rfl
  | [_, _, _, _, _, _, _, _], _ => by kernel_rfl
  | [_, _, _, _, _, _, _, _, _], _ => by kernel_rfl
  | [_, _, _, _, _, _, _, _, _, _], _ => by kernel_rfl
  | [_, _, _, _, _, _, _, _, _, _, _], _ => by kernel_rfl
  | [_, _, _, _, _, _, _, _, _, _, _, _], _ => by kernel_rfl
  | [_, _, _, _, _, _, _, _, _, _, _, _, _], _ => by kernel_rfl
  | _ :: _ :: _ :: _ :: _ :: _ :: _ :: _ :: _ :: _ :: _ :: _ :: _ :: _ :: _, h => absurd h (by simp)
theorem args_object_init_n (a : Value) (args : List Value) : argsOk "object.__init__" ⟨a :: args, []⟩ := by
  unfold argsOk; rw [signature?_of (id := "object.__init__") (n := ['_', '_', 't', 'i', 'n', 'i', '_', '_']) (o := ['t', 'c', 'e', 'j', 'b', 'o']) (by kernel_rfl) F.owner_object]; kernel_rfl
abbrev ZipAt (h : Heap) (z TI TO : Addr) (f0 b : Value) : Prop :=
  h.get? z = some { cls := .type "zip", dict := none, data := .fields #[f0, b, .bool false, .ref TI, .ref TO], slots := #[] }
abbrev IsTupN (h : Heap) (T : Addr) (us : List Value) : Prop := h.get? T = some { cls := .type "tuple", data := .seq us.toArray }
/-- the iterators' addresses, made one behind the other from n on -/
def itsAt (n : Nat) : List Addr → List (Addr × Addr)
  | [] => []
  | l :: ls => (n, l) :: itsAt (n + 1) ls
theorem itsAt_len : ∀ (n : Nat) (ls : List Addr), (itsAt n ls).length = ls.length
  | _, [] => rfl
  | n, _ :: ls => by rw [itsAt, List.length_cons, List.length_cons, itsAt_len (n + 1) ls]
section
variable {prog : Program} {w : World} {A : Around} {E : Value → Shared → Prop} {s : Shared}
theorem iterAllN {Q : List Value → Shared → Prop} (ls : List Addr) (hl : ∀ l ∈ ls, ∃ xs, s.heap.IsList l xs)
    (hQ : ∀ h', (∀ p ∈ itsAt s.heap.objs.size ls, h'.IsListIter p.1 p.2 0) → h'.objs.size = s.heap.objs.size + ls.length → (∀ c o, s.heap.get? c = some o → h'.get? c = some o) →
      Q ((itsAt s.heap.objs.size ls).map fun p => .ref p.1) { s with heap := h' }) :
    wpAny (model prog w) A (Builtin.SmallTypes.iterAll (ls.map .ref)) Q E s := by
  unfold Builtin.SmallTypes.iterAll
  refine wpAny_bind (wpAny_forIn_list _ (fun rest b s' => ∃ (todo : List Addr) (h' : Heap) (done : List (Addr × Addr)), rest = todo.map Value.ref ∧ s' = { s with heap := h' } ∧ (∀ l ∈ todo, l ∈ ls) ∧ itsAt s.heap.objs.size ls = done ++ itsAt h'.objs.size todo ∧
      b = (done.map fun p => Value.ref p.1).toArray ∧ (∀ p ∈ done, h'.IsListIter p.1 p.2 0) ∧ h'.objs.size + todo.length = s.heap.objs.size + ls.length ∧ (∀ c o, s.heap.get? c = some o → h'.get? c = some o)) _ ?_ ?_ _ _ ⟨ls, s.heap, [], rfl, rfl, fun l h => h, rfl, rfl, fun p h => (List.not_mem_nil h).elim, rfl, fun c o h => h⟩)
  · rintro x rest b s' ⟨todo, h', done, e1, rfl, e3, e4, rfl, e6, e7, e8⟩
    cases todo with
    | nil => simp at e1
    | cons l todo =>
      rw [List.map_cons, List.cons.injEq] at e1
      obtain ⟨rfl, rfl⟩ := e1
      obtain ⟨xs, hx⟩ := hl l (e3 l (List.mem_cons_self ..))
      have hx' : h'.IsList l xs := Heap.IsList.at hx fun o e => e8 l o e
      refine wpAny_bind (wpAny_holding (wpAny_pyIter_list (s := { s with heap := h' }) hx' (wpAny_pure ?_)))
      have z1 : (h'.push { cls := .type "list_iterator", data := .fields #[.ref l, .int 0 0] }).objs.size = h'.objs.size + 1 := Heap.size_push ..
      refine ⟨todo, _, done ++ [(h'.objs.size, l)], rfl, rfl, fun q hq => e3 q (List.mem_cons_of_mem _ hq), ?_, ?_, fun p hp => ?_, ?_, fun c o q => Heap.get?_push_of_some _ (e8 c o q)⟩
      · show itsAt s.heap.objs.size ls = _
        rw [e4, z1, List.append_assoc]; rfl
      · rw [List.map_append]; simp
      · rcases List.mem_append.mp hp with q | q
        · exact (e6 p q).at fun o e => Heap.get?_push_of_some _ e
        · rw [List.mem_singleton] at q
          subst q
          exact ⟨_, Heap.get?_push_size _ rfl, rfl, rfl⟩
      · rw [z1, ← e7, List.length_cons]; omega
  · rintro b s' ⟨todo, h', done, e1, rfl, e3, e4, rfl, e6, e7, e8⟩
    cases todo with
    | cons l todo => simp at e1
    | nil =>
      refine wpAny_pure ?_
      have e9 : itsAt s.heap.objs.size ls = done := by rw [e4]; simp [itsAt]
      have := hQ h' (fun p hp => e6 p (by rw [← e9]; exact hp)) (by simpa using e7) e8
      rw [e9] at this
      simpa using this
/-- what zip(..) of lists makes -/
def ZipMade (h h' : Heap) (ls : List Addr) : Prop :=
  ZipAt h' (h.objs.size + ls.length + 2) (h.objs.size + ls.length) (h.objs.size + ls.length + 1) .none (.bool false) ∧ IsTupN h' (h.objs.size + ls.length) ((itsAt h.objs.size ls).map fun p => .ref p.1) ∧
    IsTupN h' (h.objs.size + ls.length + 1) (((itsAt h.objs.size ls).map fun p => Value.ref p.1).map fun _ => .none) ∧ (∀ p ∈ itsAt h.objs.size ls, h'.IsListIter p.1 p.2 0) ∧ h'.objs.size = h.objs.size + ls.length + 3 ∧ ∀ c o, h.get? c = some o → h'.get? c = some o
abbrev zN1 (h : Heap) (us : List Value) : Heap := h.push { cls := .type "tuple", data := .seq us.toArray }
abbrev zN2 (h : Heap) (us : List Value) : Heap := (zN1 h us).push { cls := .type "tuple", data := .seq (us.map fun _ => Value.none).toArray }
abbrev zN3 (h : Heap) (us : List Value) : Heap := (zN2 h us).push { cls := .type "zip", data := .fields #[.none, .bool false, .bool false, .ref h.objs.size, .ref (zN1 h us).objs.size] }
theorem meets_zip_newN (ls : List Addr) (hn : ls.length ≤ 13) :
    Meets (Builtin.«zip.__new__» ⟨.type "zip" :: ls.map .ref, []⟩) (fun _ R s => (∀ l ∈ ls, ∃ xs, s.heap.IsList l xs) ∧
      (∀ h', ZipMade s.heap h' ls → R (.ok (.ret (.ref (s.heap.objs.size + ls.length + 2)))) { s with heap := h' })) :=
  .of_wp fun prog w A R s h => by
    obtain ⟨hl, h⟩ := h
    have hsub := sub_zip
    obtain ⟨hp, g, d, tk, os⟩ := s
    wp_walk using iterAllN (s := ⟨hp, g, d, tk, os⟩) ls hl
    intro h' k1 k2 k3
    replace k1 : ∀ p ∈ itsAt hp.objs.size ls, h'.IsListIter p.1 p.2 0 := k1
    replace k2 : h'.objs.size = hp.objs.size + ls.length := k2
    replace k3 : ∀ c o, hp.get? c = some o → h'.get? c = some o := k3
    have hlen : (itsAt hp.objs.size ls).length ≤ sizeLine := by rw [itsAt_len]; exact Nat.le_trans hn (by decide)
    refine wpAny_bind (wpAny_newTuple ?_ (by rw [List.length_map]; exact hlen))
    refine wpAny_bind (wpAny_newTuple ?_ (by rw [List.length_map, List.length_map]; exact hlen))
    wp_walk
    have z1 : (zN1 h' ((itsAt hp.objs.size ls).map fun p => Value.ref p.1)).objs.size = hp.objs.size + ls.length + 1 := by rw [Heap.size_push, k2]
    have z2 : (zN2 h' ((itsAt hp.objs.size ls).map fun p => Value.ref p.1)).objs.size = hp.objs.size + ls.length + 2 := by rw [Heap.size_push, z1]
    refine ⟨.ref (zN2 h' ((itsAt hp.objs.size ls).map fun p => Value.ref p.1)).objs.size, rfl, ?_⟩
    have fin := h (zN3 h' ((itsAt hp.objs.size ls).map fun p => Value.ref p.1)) ⟨?_, ?_, ?_, fun p hp => ((((k1 p hp).at fun o e => Heap.get?_push_of_some _ e).at fun o e => Heap.get?_push_of_some _ e).at fun o e => Heap.get?_push_of_some _ e), ?_, fun c o q => Heap.get?_push_of_some _ (Heap.get?_push_of_some _ (Heap.get?_push_of_some _ (k3 c o q)))⟩
    · show R (.ok (.ret (.ref (zN2 h' _).objs.size))) _
      rw [z2]
      exact fin
    · have e : (zN3 h' ((itsAt hp.objs.size ls).map fun p => Value.ref p.1)).get? (zN2 h' ((itsAt hp.objs.size ls).map fun p => Value.ref p.1)).objs.size = some _ := Heap.get?_push_size _ rfl
      rw [z2, k2, z1] at e
      exact e
    · have e : (zN3 h' ((itsAt hp.objs.size ls).map fun p => Value.ref p.1)).get? h'.objs.size = some _ := Heap.get?_push_of_some _ (Heap.get?_push_of_some _ (Heap.get?_push_size _ rfl))
      rw [k2] at e
      exact e
    · have e : (zN3 h' ((itsAt hp.objs.size ls).map fun p => Value.ref p.1)).get? (zN1 h' ((itsAt hp.objs.size ls).map fun p => Value.ref p.1)).objs.size = some _ := Heap.get?_push_of_some _ (Heap.get?_push_size _ rfl)
      rw [z1] at e
      exact e
    · show (zN3 h' _).objs.size = _
      rw [Heap.size_push, z2]
theorem call_zipN {ls : List Addr} (hn : ls.length ≤ 13) {Q : Value → Shared → Prop} (hl : ∀ l ∈ ls, ∃ xs, s.heap.IsList l xs)
    (h : ∀ h', ZipMade s.heap h' ls → Q (.ref (s.heap.objs.size + ls.length + 2)) { s with heap := h' }) : wpAny (model prog w) A (call (.type "zip") (ls.map .ref)) Q E s := by
  refine callType_new F.called_zip (by decide) (typeCall_zip_n _) (newCall_zip_n _ (by rw [List.length_map]; exact hn)) (fun obj => args_object_init_n obj _) F.entry_zip_new (meets_zip_newN ls hn) ⟨hl, fun h' hm => ?_⟩
  exact ⟨⟨_, hm.1, rfl⟩, h h' hm⟩
end
end PySem
set_option Elab.async false
set_option linter.all false
set_option maxRecDepth 100000
namespace PySem
open Sem (wp)
/-- the cells of a zip of lists lie apart -/
structure SepN (z TI TO : Addr) (ps : List (Addr × Addr)) : Prop where
  TIz : TI ≠ z
  TOz : TO ≠ z
  TITO : TI ≠ TO
  iz : ∀ p ∈ ps, p.1 ≠ z ∧ p.1 ≠ TI ∧ p.1 ≠ TO
  nd : (ps.map (·.1)).Nodup
  lz : ∀ p ∈ ps, p.2 ≠ z ∧ p.2 ≠ TO ∧ ∀ q ∈ ps, p.2 ≠ q.1
def ItemsN (h : Heap) (ps : List (Addr × Addr)) (i : Nat) (us : List Value) : Prop :=
  us.length = ps.length ∧ ∀ (k : Nat) p u, ps[k]? = some p → us[k]? = some u → ∃ its, h.IsList p.2 its ∧ its[i]? = some u
theorem ItemsN.at {h : Heap} {ps done todo : List (Addr × Addr)} {p : Addr × Addr} {i : Nat} {us : List Value} (hu : ItemsN h ps i us) (e : ps = done ++ p :: todo) : ∃ u its, us[done.length]? = some u ∧ h.IsList p.2 its ∧ its[i]? = some u := by
  have hp : ps[done.length]? = some p := by rw [e]; simp
  have hl : done.length < us.length := by rw [hu.1, e]; simp
  obtain ⟨its, a, b⟩ := hu.2 done.length p us[done.length] hp (List.getElem?_eq_getElem hl)
  exact ⟨_, its, List.getElem?_eq_getElem hl, a, b⟩
abbrev nextN (z : Addr) : Sem Fin := Builtin.«zip.__next__» ⟨[.ref z], []⟩
theorem updateSeqN {prog : Program} {w : World} {A : Around} {E : Value → Shared → Prop} {s : Shared} {T : Addr} {us : List Value} {x : Value} {k : Nat} {Q : Unit → Shared → Prop} (tat : IsTupN s.heap T us) (hn : us.length ≤ 13)
    (h : ∀ h', IsTupN h' T (us.set k x) → Heap.SameBut T s.heap h' → Q () { s with heap := h' }) :
    wpAny (model prog w) A (updateSeq T (·.setIfInBounds k x)) Q E s := by
  have z : us.toArray.size ≤ sizeLine := by rw [List.size_toArray]; exact Nat.le_trans hn (by decide)
  refine wpAny_updateSeq tat rfl (h _ ?_ (Heap.SameBut.update ..)) z (by rw [Array.size_setIfInBounds]; exact Nat.le_succ_of_le z)
  show Heap.get? _ T = _
  rw [Heap.get?_update_self _ tat rfl]
  simp [Obj.mapSeq]
section
variable {prog : Program} {w : World} {A : Around} {E : Value → Shared → Prop} {s : Shared} {z TI TO : Addr} {ps : List (Addr × Addr)} {i : Nat} {f0 b0 : Value} {us arr : List Value}
theorem zipN_own {Q : Value → Shared → Prop} (S : SepN z TI TO ps) (zat : ZipAt s.heap z TI TO f0 b0) (free : ∀ Q : Bool → Shared → Prop, Q true s → wpAny (model prog w) A (Builtin.SmallTypes.ownedTupleIsFree (.ref z)) Q E s)
    (tia : IsTupN s.heap TI (ps.map fun p => .ref p.1)) (toa : IsTupN s.heap TO arr) (ha : arr.length = ps.length) (hne : ps ≠ []) (hn : ps.length ≤ 13) (hi : ∀ p ∈ ps, s.heap.IsListIter p.1 p.2 i) (hu : ItemsN s.heap ps i us)
    (hQ : ∀ h', ZipAt h' z TI TO (rawInt s.heap.objs.size) (.bool false) → IsTupN h' TO us → (∀ p ∈ ps, h'.IsListIter p.1 p.2 (i + 1)) → IsTupN h' s.heap.objs.size us → h'.objs.size = s.heap.objs.size + 1 →
      (∀ c o, c ≠ z → c ≠ TO → c ∉ ps.map (·.1) → s.heap.get? c = some o → h'.get? c = some o) → Q (.ref s.heap.objs.size) { s with heap := h' }) :
    wpAny (model prog w) A (nextN z) (fun fin s' => ∃ v, fin = .done (.ret v) ∧ Q v s') E s := by
  show wpAny _ _ (field (.ref z) 2 >>= _) _ _ _ ; refine wpAny_bind (wpAny_field zat rfl (x := .bool false) rfl ?_)
  show wpAny _ _ (field (.ref z) 3 >>= _) _ _ _ ; refine wpAny_bind (wpAny_field zat rfl (x := .ref TI) rfl (wpAny_bind (wpAny_seqItems tia rfl ?_)))
  have hemp : ((ps.map fun p => Value.ref p.1).toArray.isEmpty) = false := by
    cases ps with
    | nil => exact absurd rfl hne
    | cons p ps => rfl
  simp only [hemp, Bool.false_eq_true, if_false]
  show wpAny _ _ (Builtin.SmallTypes.ownedTupleIsFree _ >>= _) _ _ _
  refine wpAny_bind (free _ ?_)
  simp only [if_true]
  refine wpAny_bind (wpAny_rule ?_)
  refine wpAny_bind (wpAny_field zat rfl (x := .ref TO) rfl ?_)
  refine wpAny_bind (wpAny_setField_rec zat (by simp) fun g1 za1 sm1 => ?_)
  replace za1 : ZipAt g1 z TI TO .ellipsis b0 := za1
  refine wpAny_bind ?_
  refine wpAny_forIn_list _ (fun rest b s' => ∃ (done todo : List (Addr × Addr)) (h' : Heap) (ar : List Value), ps = done ++ todo ∧ rest = (todo.map fun p => Value.ref p.1).zipIdx done.length ∧ s' = { s with heap := h' } ∧ b = (none, ()) ∧ ZipAt h' z TI TO .ellipsis b0 ∧ IsTupN h' TO ar ∧ ar.length = ps.length ∧ ar.take done.length = us.take done.length ∧
    (∀ p ∈ done, h'.IsListIter p.1 p.2 (i + 1)) ∧ (∀ p ∈ todo, h'.IsListIter p.1 p.2 i) ∧ h'.objs.size = s.heap.objs.size ∧ ∀ c o, c ≠ z → c ≠ TO → c ∉ ps.map (·.1) → s.heap.get? c = some o → h'.get? c = some o) _ ?_ ?_ _ _ ?_
  · rintro x rest b s' ⟨done, todo, h', ar, e1, e2, rfl, rfl, e5, e6, e7, e8, e9, e10, e11, e12⟩
    cases todo with
    | nil => simp at e2
    | cons p todo =>
      rw [List.map_cons, List.zipIdx_cons, List.cons.injEq] at e2
      obtain ⟨rfl, rfl⟩ := e2
      obtain ⟨u, its, u1, u2, u3⟩ := hu.at e1
      have pm : p ∈ ps := by rw [e1]; simp
      have l1 := S.lz p pm
      have u2' : h'.IsList p.2 its := Heap.IsList.at u2 fun o e => e12 _ o l1.1 l1.2.1 (fun q => by obtain ⟨r, hr, hq⟩ := List.mem_map.mp q; exact l1.2.2 r hr hq.symm) e
      have nd := S.nd
      rw [e1, List.map_append, List.map_cons] at nd
      have nd2 := List.nodup_append.mp nd
      have dn : ∀ q ∈ done, q.1 ≠ p.1 := fun q hq e => nd2.2.2 q.1 (List.mem_map.mpr ⟨q, hq, rfl⟩) p.1 (List.mem_cons_self ..) e
      have tn : ∀ q ∈ todo, q.1 ≠ p.1 := fun q hq e => (List.nodup_cons.mp nd2.2.1).1 (by rw [← e]; exact List.mem_map.mpr ⟨q, hq, rfl⟩)
      have inz := S.iz p pm
      refine wpAny_bind (wpAny_onRaise ?_)
      show wpAny _ _ (Builtin.SmallTypes.nextOf (.ref p.1) >>= _) _ _ _
      refine wpAny_bind (wpAny_nextOf_list_item (s := { s with heap := h' }) (e10 p (List.mem_cons_self ..)) u2' u3 fun h2 it2 sb2 => wpAny_pure ?_)
      have T2 : IsTupN h2 TO ar := sb2.extBut _ _ inz.2.2.symm e6
      have z2 : ZipAt h2 z TI TO .ellipsis b0 := sb2.extBut _ _ inz.1.symm e5
      refine wpAny_bind (wpAny_seqItems (s := { s with heap := h2 }) T2 rfl ?_)
      refine wpAny_bind (updateSeqN (s := { s with heap := h2 }) T2 (by rw [e7]; exact hn) fun h3 T3 sb3 => ?_)
      replace sb3 : Heap.SameBut TO h2 h3 := sb3
      refine wpAny_bind (wpAny_letGo (wpAny_pure ?_))
      refine ⟨done ++ [p], todo, h3, ar.set done.length u, by rw [e1, List.append_assoc]; rfl, by rw [List.length_append]; rfl, rfl, rfl, sb3.extBut _ _ S.TOz.symm z2, T3, by rw [List.length_set, e7], ?_, fun q hq => ?_, fun q hq => ?_, ?_, fun c o c1 c2 c3 e => ?_⟩
      · have lt : done.length < ar.length := by rw [e7, e1]; simp
        have lt2 : done.length < us.length := by rw [hu.1, e1]; simp
        rw [List.length_append, List.length_singleton, List.take_add_one, List.take_add_one, List.take_set_of_le (Nat.le_refl _), e8, List.getElem?_set_self lt, u1]
      · rcases List.mem_append.mp hq with q' | q'
        · have qm : q ∈ ps := by rw [e1]; exact List.mem_append_left _ q'
          exact ((e9 q q').extBut sb2.extBut (dn q q')).extBut sb3.extBut (S.iz q qm).2.2
        · rw [List.mem_singleton] at q'
          subst q'
          exact it2.extBut sb3.extBut inz.2.2
      · have qm : q ∈ ps := by rw [e1]; exact List.mem_append_right _ (List.mem_cons_of_mem _ hq)
        exact ((e10 q (List.mem_cons_of_mem _ hq)).extBut sb2.extBut (tn q hq)).extBut sb3.extBut (S.iz q qm).2.2
      · rw [sb3.1, sb2.1]; exact e11
      · exact sb3.extBut _ _ c2 (sb2.extBut _ _ (fun q => c3 (by rw [q]; exact List.mem_map.mpr ⟨p, pm, rfl⟩)) (e12 c o c1 c2 c3 e))
  · rintro b s' ⟨done, todo, h', ar, e1, e2, rfl, rfl, e5, e6, e7, e8, e9, e10, e11, e12⟩
    cases todo with
    | cons p todo => simp at e2
    | nil =>
      have ed : ps = done := by rw [e1, List.append_nil]
      have ea : ar = us := by
        have q : done.length = ps.length := by rw [ed]
        rw [q, List.take_of_length_le (by omega), List.take_of_length_le (by rw [hu.1]; exact Nat.le_refl _)] at e8
        exact e8
      subst ea
      show wpAny _ _ (seqItems? (Value.ref TO) >>= _) _ _ _
      refine wpAny_bind (wpAny_seqItems (s := { s with heap := h' }) e6 rfl ?_)
      refine wpAny_bind (wpAny_newTuple ?_ (by show ar.length ≤ sizeLine; rw [e7]; exact Nat.le_trans hn (by decide)))
      show wpAny _ _ (Builtin.SmallTypes.ownedTupleHandOut (.ref z) (.ref h'.objs.size) >>= _) _ _ ({ s with heap := h'.push { cls := .type "tuple", data := .seq ar.toArray } })
      refine wpAny_bind ?_
      unfold Builtin.SmallTypes.ownedTupleHandOut
      have hz6 : ZipAt (h'.push { cls := .type "tuple", data := .seq ar.toArray }) z TI TO .ellipsis b0 := Heap.get?_push_of_some _ e5
      refine wpAny_bind (wpAny_setField_rec hz6 (by simp) fun h7 hz7 hs7 => ?_)
      replace hz7 : ZipAt h7 z TI TO (rawInt h'.objs.size) b0 := hz7
      refine wpAny_setField_rec hz7 (by simp) fun h8 hz8 hs8 => ?_
      replace hz8 : ZipAt h8 z TI TO (rawInt h'.objs.size) (.bool false) := hz8
      replace hs7 : Heap.SameBut z (h'.push { cls := .type "tuple", data := .seq ar.toArray }) h7 := hs7
      replace hs8 : Heap.SameBut z h7 h8 := hs8
      have hzlt : z < h'.objs.size := Heap.lt_size e5
      have up : ∀ c o, c ≠ z → h'.get? c = some o → h8.get? c = some o := fun c o c1 e => hs8.extBut _ _ c1 (hs7.extBut _ _ c1 (Heap.get?_push_of_some _ e))
      have hT8 : IsTupN h8 h'.objs.size ar := hs8.extBut _ _ (Nat.ne_of_gt hzlt) (hs7.extBut _ _ (Nat.ne_of_gt hzlt) (Heap.get?_push_size _ rfl))
      have hsz8 : h8.objs.size = h'.objs.size + 1 := by rw [hs8.1, hs7.1, Heap.size_push]
      rw [e11] at hz8 hT8 hsz8
      refine wpAny_pure ⟨_, rfl, ?_⟩
      show Q (.ref h'.objs.size) { s with heap := h8 }
      rw [e11]
      exact hQ h8 hz8 (up _ _ S.TOz e6) (fun p hp => (e9 p (by rw [← ed]; exact hp)).at fun o e => up _ _ (S.iz p hp).1 e) hT8 hsz8 fun c o c1 c2 c3 e => up c o c1 (e12 c o c1 c2 c3 e)
  · exact ⟨[], ps, g1, arr, rfl, rfl, rfl, rfl, za1, sm1.extBut _ _ S.TOz toa, ha, rfl, fun p hp => (List.not_mem_nil hp).elim, fun p hp => (hi p hp).extBut sm1.extBut (S.iz p hp).1, sm1.1, fun c o c1 c2 c3 e => sm1.extBut _ _ c1 e⟩
theorem zipN_held {Q : Value → Shared → Prop} (S : SepN z TI TO ps) (zat : ZipAt s.heap z TI TO f0 b0)
    (held : ∀ Q : Bool → Shared → Prop, (∀ h', ZipAt h' z TI TO f0 (.bool true) → Heap.SameBut z s.heap h' → Q false { s with heap := h' }) → wpAny (model prog w) A (Builtin.SmallTypes.ownedTupleIsFree (.ref z)) Q E s)
    (tia : IsTupN s.heap TI (ps.map fun p => .ref p.1)) (hne : ps ≠ []) (hn : ps.length ≤ 13) (hi : ∀ p ∈ ps, s.heap.IsListIter p.1 p.2 i) (hu : ItemsN s.heap ps i us)
    (hQ : ∀ h', ZipAt h' z TI TO f0 (.bool true) → (∀ p ∈ ps, h'.IsListIter p.1 p.2 (i + 1)) → IsTupN h' s.heap.objs.size us → h'.objs.size = s.heap.objs.size + 1 →
      (∀ c o, c ≠ z → c ∉ ps.map (·.1) → s.heap.get? c = some o → h'.get? c = some o) → Q (.ref s.heap.objs.size) { s with heap := h' }) :
    wpAny (model prog w) A (nextN z) (fun fin s' => ∃ v, fin = .done (.ret v) ∧ Q v s') E s := by
  show wpAny _ _ (field (.ref z) 2 >>= _) _ _ _ ; refine wpAny_bind (wpAny_field zat rfl (x := .bool false) rfl ?_)
  show wpAny _ _ (field (.ref z) 3 >>= _) _ _ _ ; refine wpAny_bind (wpAny_field zat rfl (x := .ref TI) rfl (wpAny_bind (wpAny_seqItems tia rfl ?_)))
  have hemp : ((ps.map fun p => Value.ref p.1).toArray.isEmpty) = false := by
    cases ps with
    | nil => exact absurd rfl hne
    | cons p ps => rfl
  simp only [hemp, Bool.false_eq_true, if_false]
  show wpAny _ _ (Builtin.SmallTypes.ownedTupleIsFree _ >>= _) _ _ _
  refine wpAny_bind (held _ fun g1 za1 sm1 => ?_)
  simp only [Bool.false_eq_true, if_false]
  refine wpAny_bind ?_
  rw [← Array.forIn_toList]
  refine wpAny_forIn_list _ (fun rest b s' => ∃ (done todo : List (Addr × Addr)) (h' : Heap), ps = done ++ todo ∧ rest = (todo.map fun p => Value.ref p.1) ∧ s' = { s with heap := h' } ∧ b = (none, (us.take done.length).toArray) ∧ ZipAt h' z TI TO f0 (.bool true) ∧
    (∀ p ∈ done, h'.IsListIter p.1 p.2 (i + 1)) ∧ (∀ p ∈ todo, h'.IsListIter p.1 p.2 i) ∧ h'.objs.size = s.heap.objs.size ∧ ∀ c o, c ≠ z → c ∉ ps.map (·.1) → s.heap.get? c = some o → h'.get? c = some o) _ ?_ ?_ _ _ ?_
  · rintro x rest b s' ⟨done, todo, h', e1, e2, rfl, rfl, e5, e9, e10, e11, e12⟩
    cases todo with
    | nil => simp at e2
    | cons p todo =>
      rw [List.map_cons, List.cons.injEq] at e2
      obtain ⟨rfl, rfl⟩ := e2
      obtain ⟨u, its, u1, u2, u3⟩ := hu.at e1
      have pm : p ∈ ps := by rw [e1]; simp
      have l1 := S.lz p pm
      have u2' : h'.IsList p.2 its := Heap.IsList.at u2 fun o e => e12 _ o l1.1 (fun q => by obtain ⟨r, hr, hq⟩ := List.mem_map.mp q; exact l1.2.2 r hr hq.symm) e
      have nd := S.nd
      rw [e1, List.map_append, List.map_cons] at nd
      have nd2 := List.nodup_append.mp nd
      have dn : ∀ q ∈ done, q.1 ≠ p.1 := fun q hq e => nd2.2.2 q.1 (List.mem_map.mpr ⟨q, hq, rfl⟩) p.1 (List.mem_cons_self ..) e
      have tn : ∀ q ∈ todo, q.1 ≠ p.1 := fun q hq e => (List.nodup_cons.mp nd2.2.1).1 (by rw [← e]; exact List.mem_map.mpr ⟨q, hq, rfl⟩)
      have inz := S.iz p pm
      refine wpAny_bind (wpAny_holding ?_)
      show wpAny _ _ (Builtin.SmallTypes.nextOf (.ref p.1) >>= _) _ _ _
      refine wpAny_bind (wpAny_nextOf_list_item (s := { s with heap := h' }) (e10 p (List.mem_cons_self ..)) u2' u3 fun h2 it2 sb2 => wpAny_pure (wpAny_pure ?_))
      have z2 : ZipAt h2 z TI TO f0 (.bool true) := sb2.extBut _ _ inz.1.symm e5
      refine ⟨done ++ [p], todo, h2, by rw [e1, List.append_assoc]; rfl, rfl, rfl, ?_, z2, fun q hq => ?_, fun q hq => (e10 q (List.mem_cons_of_mem _ hq)).extBut sb2.extBut (tn q hq), ?_, fun c o c1 c3 e => ?_⟩
      · rw [List.length_append, List.length_singleton, List.take_add_one, u1]; simp
      · rcases List.mem_append.mp hq with q' | q'
        · exact (e9 q q').extBut sb2.extBut (dn q q')
        · rw [List.mem_singleton] at q'
          subst q'
          exact it2
      · rw [sb2.1]; exact e11
      · exact sb2.extBut _ _ (fun q => c3 (by rw [q]; exact List.mem_map.mpr ⟨p, pm, rfl⟩)) (e12 c o c1 c3 e)
  · rintro b s' ⟨done, todo, h', e1, e2, rfl, rfl, e5, e9, e10, e11, e12⟩
    cases todo with
    | cons p todo => simp at e2
    | nil =>
      have ed : ps = done := by rw [e1, List.append_nil]
      have ea : us.take done.length = us := List.take_of_length_le (by rw [hu.1, ed]; exact Nat.le_refl _)
      rw [ea]
      show wpAny _ _ (newTuple us >>= _) _ _ _
      refine wpAny_bind (wpAny_newTuple ?_ (by show us.length ≤ sizeLine; rw [hu.1]; exact Nat.le_trans hn (by decide)))
      refine wpAny_pure ⟨_, rfl, ?_⟩
      show Q (.ref h'.objs.size) { s with heap := h'.push { cls := .type "tuple", data := .seq us.toArray } }
      have hp : IsTupN (h'.push { cls := .type "tuple", data := .seq us.toArray }) h'.objs.size us := Heap.get?_push_size _ rfl
      have hz4 : (h'.push { cls := .type "tuple", data := .seq us.toArray }).objs.size = h'.objs.size + 1 := Heap.size_push ..
      rw [e11] at hp hz4 ⊢
      exact hQ _ (Heap.get?_push_of_some _ e5) (fun p hp => (e9 p (by rw [← ed]; exact hp)).at fun o e => Heap.get?_push_of_some _ e) hp hz4 fun c o c1 c3 e => Heap.get?_push_of_some _ (e12 c o c1 c3 e)
  · exact ⟨[], ps, g1, rfl, rfl, rfl, rfl, za1, fun p hp => (List.not_mem_nil hp).elim, fun p hp => (hi p hp).extBut sm1.extBut (S.iz p hp).1, sm1.1, fun c o c1 c3 e => sm1.extBut _ _ c1 e⟩
theorem zipN_end {Q : Fin → Shared → Prop} {p : Addr × Addr} {its : Array Value} (nho : A.handled = none) (S : SepN z TI TO (p :: ps)) (zat : ZipAt s.heap z TI TO f0 b0)
    (fr : (∀ Q : Bool → Shared → Prop, Q true s → wpAny (model prog w) A (Builtin.SmallTypes.ownedTupleIsFree (.ref z)) Q E s) ∨
      (∀ Q : Bool → Shared → Prop, (∀ h', ZipAt h' z TI TO f0 (.bool true) → Heap.SameBut z s.heap h' → Q false { s with heap := h' }) → wpAny (model prog w) A (Builtin.SmallTypes.ownedTupleIsFree (.ref z)) Q E s))
    (tia : IsTupN s.heap TI ((p :: ps).map fun p => .ref p.1)) (hi : s.heap.IsListIter p.1 p.2 i) (hl : s.heap.IsList p.2 its) (hx : its[i]? = none)
    (hE : ∀ h' e, (∀ c o, c ≠ z → c ∉ (p :: ps).map (·.1) → s.heap.get? c = some o → h'.get? c = some o) → (∃ o, h'.get? e = some o ∧ o.cls = .type "StopIteration") → E (.ref e) { s with heap := h' }) :
    wpAny (model prog w) A (nextN z) Q E s := by
  have inz := S.iz p (List.mem_cons_self ..)
  have l1 := S.lz p (List.mem_cons_self ..)
  have pm : p.1 ∈ (p :: ps).map (·.1) := List.mem_map.mpr ⟨p, List.mem_cons_self .., rfl⟩
  show wpAny _ _ (field (.ref z) 2 >>= _) _ _ _ ; refine wpAny_bind (wpAny_field zat rfl (x := .bool false) rfl ?_)
  show wpAny _ _ (field (.ref z) 3 >>= _) _ _ _ ; refine wpAny_bind (wpAny_field zat rfl (x := .ref TI) rfl (wpAny_bind (wpAny_seqItems tia rfl ?_)))
  show wpAny _ _ (Builtin.SmallTypes.ownedTupleIsFree _ >>= _) _ _ _
  rcases fr with free | held
  · refine wpAny_bind (free _ ?_)
    simp only [if_true]
    refine wpAny_bind (wpAny_rule ?_)
    refine wpAny_bind (wpAny_field zat rfl (x := .ref TO) rfl ?_)
    refine wpAny_bind (wpAny_setField_rec zat (by simp) fun g1 za1 sm1 => ?_)
    replace za1 : ZipAt g1 z TI TO .ellipsis b0 := za1
    refine wpAny_bind ?_
    simp only [List.map_cons, List.toList_toArray, List.zipIdx_cons, List.forIn_cons]
    refine wpAny_bind (wpAny_bind (wpAny_onRaise ?_))
    show wpAny _ _ (Builtin.SmallTypes.nextOf (.ref p.1) >>= _) _ _ _
    refine wpAny_bind (wpAny_nextOf_list_end (s := { s with heap := g1 }) nho (hi.extBut sm1.extBut inz.1) (Heap.IsList.at hl fun o e => sm1.extBut _ _ l1.1 e) hx fun q e hq he => ?_)
    obtain ⟨oe, oeq, ceq⟩ := he
    have hzq : ZipAt q z TI TO .ellipsis b0 := hq _ _ inz.1.symm za1
    have nez : e ≠ z := fun x => by subst x; rw [hzq] at oeq; cases oeq; simp at ceq
    refine wpAny_setField_rec (s := { s with heap := q }) hzq (by simp) fun q' _ hqq => ?_
    replace hqq : Heap.SameBut z q q' := hqq
    exact hE q' e (fun c o c1 c2 x => hqq.extBut _ _ c1 (hq _ _ (fun y => c2 (by rw [y]; exact pm)) (sm1.extBut _ _ c1 x))) ⟨oe, hqq.extBut _ _ nez oeq, ceq⟩
  · refine wpAny_bind (held _ fun g1 za1 sm1 => ?_)
    simp only [Bool.false_eq_true, if_false]
    refine wpAny_bind ?_
    rw [← Array.forIn_toList]
    simp only [List.map_cons, List.toList_toArray, List.forIn_cons]
    refine wpAny_bind (wpAny_bind (wpAny_holding ?_))
    show wpAny _ _ (Builtin.SmallTypes.nextOf (.ref p.1) >>= _) _ _ _
    refine wpAny_bind (wpAny_nextOf_list_end (s := { s with heap := g1 }) nho (hi.extBut sm1.extBut inz.1) (Heap.IsList.at hl fun o e => sm1.extBut _ _ l1.1 e) hx fun q e hq he => ?_)
    exact hE q e (fun c o c1 c2 x => hq _ _ (fun y => c2 (by rw [y]; exact pm)) (sm1.extBut _ _ c1 x)) he
theorem zAlive {a : Addr} {Q : Option Obj → Shared → Prop} (ho : s.heap.get? a = none) (h : Q none s) : wpAny (model prog w) A (loadIfAlive a) Q E s := by
  have h' : Q (s.heap.get? a) s := by rw [ho]; exact h
  exact fun _ _ _ => h'
/-- whether the zip may take its tuple again -/
theorem freeOr {T : Addr} {f : Bool} (zat : ZipAt s.heap z TI TO f0 (.bool f)) (h0 : f0 = .none ∨ f0 = rawInt T) :
    (∀ Q : Bool → Shared → Prop, Q true s → wpAny (model prog w) A (Builtin.SmallTypes.ownedTupleIsFree (.ref z)) Q E s) ∨
      (∀ Q : Bool → Shared → Prop, (∀ h', ZipAt h' z TI TO f0 (.bool true) → Heap.SameBut z s.heap h' → Q false { s with heap := h' }) → wpAny (model prog w) A (Builtin.SmallTypes.ownedTupleIsFree (.ref z)) Q E s) := by
  rcases h0 with rfl | rfl
  · refine .inl fun Q q => ?_
    unfold Builtin.SmallTypes.ownedTupleIsFree
    exact wpAny_bind (wpAny_field zat rfl (x := .none) rfl (wpAny_pure q))
  · cases tat : s.heap.get? T with
    | none =>
      refine .inl fun Q q => ?_
      unfold Builtin.SmallTypes.ownedTupleIsFree
      refine wpAny_bind (wpAny_field zat rfl (x := rawInt T) rfl ?_)
      show wpAny _ _ (loadIfAlive ((T : Int).toNat) >>= _) _ _ _
      rw [Int.toNat_natCast]
      refine wpAny_bind (zAlive tat ?_)
      exact wpAny_pure q
    | some oT => exact .inr fun Q h => wpAny_tupleHeld_zip zat tat h
/-- a zip's state ahead of turn i -/
def StN (z TI TO : Addr) (ps : List (Addr × Addr)) (i : Nat) (h : Heap) : Prop :=
  (∃ f0 f, ZipAt h z TI TO f0 (.bool f) ∧ (f0 = .none ∨ ∃ T : Addr, f0 = rawInt T)) ∧ IsTupN h TI (ps.map fun p => .ref p.1) ∧ (∃ arr : List Value, IsTupN h TO arr ∧ arr.length = ps.length) ∧ ∀ p ∈ ps, h.IsListIter p.1 p.2 i
theorem pyNext_zipN_item {Q : Option Value → Shared → Prop} (S : SepN z TI TO ps) (st : StN z TI TO ps i s.heap) (hne : ps ≠ []) (hn : ps.length ≤ 13) (hu : ItemsN s.heap ps i us)
    (hQ : ∀ h', StN z TI TO ps (i + 1) h' → IsTupN h' s.heap.objs.size us → h'.objs.size = s.heap.objs.size + 1 →
      (∀ c o, c ≠ z → c ≠ TO → c ∉ ps.map (·.1) → s.heap.get? c = some o → h'.get? c = some o) → Q (some (.ref s.heap.objs.size)) { s with heap := h' }) :
    wpAny (model prog w) A (pyNext (.ref z)) Q E s := by
  obtain ⟨⟨f0, f, zat, h0⟩, tia, ⟨arr, toa, ha⟩, hi⟩ := st
  have tyz : s.TypeIs (.ref z) "zip" := ⟨_, zat, rfl⟩
  have h0' : ∃ T : Addr, f0 = .none ∨ f0 = rawInt T := by
    rcases h0 with q | ⟨T, q⟩
    · exact ⟨0, .inl q⟩
    · exact ⟨T, .inr q⟩
  obtain ⟨T, h0''⟩ := h0'
  have itI : TI ∉ ps.map (·.1) := fun q => by obtain ⟨r, hr, e⟩ := List.mem_map.mp q; exact (S.iz r hr).2.1 e
  have itO : TO ∉ ps.map (·.1) := fun q => by obtain ⟨r, hr, e⟩ := List.mem_map.mp q; exact (S.iz r hr).2.2 e
  unfold pyNext
  refine wpAny_bind (wpAny_attempt (wpAny_callSpecial?_slot (name := Str.ofString "__next__") tyz F.slot_zip_next
    (wpAny_call_entry F.slot_zip_next tyz F.entry_zip_next ?_ (F.args_zip_next_1 _))))
  rcases freeOr (prog := prog) (w := w) (E := fun e s' => _) zat h0'' with fr | he
  · exact zipN_own S zat fr tia toa ha hne hn hi hu fun h' a1 a2 a3 a4 a5 a6 => wpAny_pure (hQ h' ⟨⟨_, false, a1, .inr ⟨_, rfl⟩⟩, a6 _ _ S.TIz S.TITO itI tia, ⟨us, a2, hu.1⟩, a3⟩ a4 a5 a6)
  · exact zipN_held S zat he tia hne hn hi hu fun h' a1 a3 a4 a5 a6 => wpAny_pure (hQ h' ⟨⟨_, true, a1, h0⟩, a6 _ _ S.TIz itI tia, ⟨arr, a6 _ _ S.TOz itO toa, ha⟩, a3⟩ a4 a5 fun c o c1 _ c3 e => a6 c o c1 c3 e)
theorem pyNext_zipN_end {Q : Option Value → Shared → Prop} {p : Addr × Addr} {its : Array Value} (nho : A.handled = none) (S : SepN z TI TO (p :: ps)) (st : StN z TI TO (p :: ps) i s.heap) (hl : s.heap.IsList p.2 its) (hx : its[i]? = none)
    (hQ : ∀ h', (∀ c o, c ≠ z → c ∉ (p :: ps).map (·.1) → s.heap.get? c = some o → h'.get? c = some o) → Q none { s with heap := h' }) :
    wpAny (model prog w) A (pyNext (.ref z)) Q E s := by
  obtain ⟨⟨f0, f, zat, h0⟩, tia, ⟨arr, toa, ha⟩, hi⟩ := st
  have tyz : s.TypeIs (.ref z) "zip" := ⟨_, zat, rfl⟩
  have h0' : ∃ T : Addr, f0 = .none ∨ f0 = rawInt T := by
    rcases h0 with q | ⟨T, q⟩
    · exact ⟨0, .inl q⟩
    · exact ⟨T, .inr q⟩
  obtain ⟨T, h0''⟩ := h0'
  unfold pyNext
  refine wpAny_bind (wpAny_attempt (wpAny_callSpecial?_slot (name := Str.ofString "__next__") tyz F.slot_zip_next
    (wpAny_call_entry F.slot_zip_next tyz F.entry_zip_next (zipN_end nho S zat (freeOr zat h0'') tia (hi p (List.mem_cons_self ..)) hl hx fun h' e hk he => ?_) (F.args_zip_next_1 _))))
  obtain ⟨o, ho, hc⟩ := he
  refine wpAny_bind (wpAny_isInstance (T := "StopIteration") (b := true) ⟨o, ho, hc⟩ isSubtype_stop ?_)
  exact wpAny_pure (hQ h' hk)
theorem pyIter_zipN {Q : Value → Shared → Prop} (zat : ZipAt s.heap z TI TO f0 b0) (h : Q (.ref z) s) : wpAny (model prog w) A (pyIter (.ref z)) Q E s := by
  have tat : s.TypeIs (.ref z) "zip" := ⟨_, zat, rfl⟩
  refine wpAny_pyIter_slot tat F.slot_zip_iter (wpAny_call_entry F.slot_zip_iter tat F.entry_zip_iter ?_ (F.args_zip_iter_1 _))
  show wpAny _ _ (ret (.ref z)) _ _ s
  exact wpAny_pure ⟨_, rfl, "zip", _, tat, F.slot_zip_next.lookup, h⟩
end
end PySem
set_option Elab.async false
set_option linter.all false
set_option maxRecDepth 100000
namespace DL
open PySem PySem.Spec PyProof.Rows L2 RZ
theorem callWith_typeStar {M : Model} {A : Around} {E : Value → Shared → Prop} {s : Shared} {env : Env} {pos p : Pos} {T : String} {e : Expr} {Q : Value → Shared → Prop}
    (h : wpAny M A (eval e env) (fun v s₁ => PySem.W.StarOf M A E v (fun vs s₂ => wpAny M A (call (.type T) vs) Q E s₂) s₁) E s)
    (he : starEach [.Starred e p] env = [(true, eval e env)] := by rfl) : wpAny M A (callWith pos (.type T) [] (backTo pos (starEach [.Starred e p] env)) []) Q E s := by
  rw [he]
  unfold callWith
  refine wpAny_bind (wpAny_holding (wpAny_mono (PySem.W.ks_lone (Q := fun a s₁ => wpAny M A (call (.type T) ([] ++ a.pos) a.kw) Q E s₁) h) (fun a s₁ h₁ => wpAny_bind (wpAny_standAt ?_)) fun _ _ x => x))
  refine wpAny_bind (wpAny_pure ?_)
  have ht : (List.any (backTo pos [(true, eval e env)]) (·.1) || List.any ([] : List (Option Str × Sem Value)) (·.1.isNone)) = true := rfl
  rw [ht]
  exact wpAny_bind (wpAny_mono (wpAny_operating h₁) (fun r s₂ hr => wpAny_bind (wpAny_holding (wpAny_point (wpAny_pure hr)))) fun _ _ x => x)
/-- two lists, each of one with each of the other at its place -/
def A2 {α β : Type} (P : α → β → Prop) : List α → List β → Prop
  | [], [] => True
  | a :: as, b :: bs => P a b ∧ A2 P as bs
  | _, _ => False
theorem A2.len {α β : Type} {P : α → β → Prop} : ∀ {as : List α} {bs : List β}, A2 P as bs → as.length = bs.length
  | [], [], _ => rfl
  | _ :: _, _ :: _, h => congrArg (· + 1) h.2.len
  | [], _ :: _, h => h.elim
  | _ :: _, [], h => h.elim
theorem A2.imp {α β : Type} {P Q : α → β → Prop} (f : ∀ a b, P a b → Q a b) : ∀ {as : List α} {bs : List β}, A2 P as bs → A2 Q as bs
  | [], [], _ => trivial
  | _ :: _, _ :: _, h => ⟨f _ _ h.1, h.2.imp f⟩
  | [], _ :: _, h => h.elim
  | _ :: _, [], h => h.elim
/-- lists at the addresses, one item of each at each turn, as a new tuple -/
def ItN (K : PySem.W.Frag) (as : List Addr) : It :=
  ⟨fun i H => ∃ rows : List (List V), A2 (fun a xs => SqL K H a xs ∧ i < xs.length) as rows,
    fun i H v H' => ∃ T col, v = .ref T ∧ H T = none ∧ H' = upd H T (.tup col) ∧ A2 (fun a x => ∀ xs, SqL K H a xs → xs[i]? = some x) as col,
    fun i H => ∃ a as' xs, as = a :: as' ∧ SqL K H a xs ∧ xs.length ≤ i⟩
theorem column {X : Cx} {pins : List (Addr × Obj)} {σ : L2.St} {H : Hp} {s : Shared} {i : Nat} (I : Inv X pins σ H s) : ∀ (as : List Addr) (rows : List (List V)), A2 (fun a xs => SqL X.K H a xs ∧ i < xs.length) as rows →
    ∃ us col, us.length = as.length ∧ Vals col us ∧ A2 (fun a x => ∀ xs, SqL X.K H a xs → xs[i]? = some x) as col ∧ ∀ (k : Nat) a u, as[k]? = some a → us[k]? = some u → ∃ its, s.heap.IsList a its ∧ its[i]? = some u
  | [], [], _ => ⟨[], [], rfl, .nil, trivial, fun k a u h => by simp at h⟩
  | a :: as, xs :: rows, h => by
    obtain ⟨us, col, l, rv, c, g⟩ := column I as rows h.2
    obtain ⟨its, rx, p, _⟩ := I.list h.1.1
    have hlt : i < xs.length := h.1.2
    have hx : xs[i]? = some xs[i] := List.getElem?_eq_getElem hlt
    obtain ⟨u, hu, ru⟩ := rx.get hx
    refine ⟨u :: us, xs[i] :: col, by rw [List.length_cons, List.length_cons, l], .cons ru rv, ⟨fun ys hy => ?_, c⟩, fun k b v hb hv => ?_⟩
    · rw [I.list_inj hy h.1.1]; exact hx
    · cases k with
      | zero =>
        have e1 : a = b := by simpa using hb
        have e2 : u = v := by simpa using hv
        subst e1 e2
        exact ⟨its.toArray, p.isList, by simpa using hu⟩
      | succ k => exact g k b v (by simpa using hb) (by simpa using hv)
  | [], _ :: _, h => h.elim
  | _ :: _, [], h => h.elim
theorem turn_zipN {P : Program} {w : World} {K : PySem.W.Frag} {x : Str} {tpos : Pos} {z TI TO : Addr} {ps : List (Addr × Addr)} (S : SepN z TI TO ps) (hne : ps ≠ []) (hn : ps.length ≤ 13) :
    Turn P w K (.Name x tpos) (ItN K (ps.map (·.2))) (z :: TI :: TO :: ps.map (·.1)) z (StN z TI TO ps) where
  mem := List.mem_cons_self ..
  obj := fun i h st c hc => by
    obtain ⟨⟨f0, f, hz, h0⟩, hTI, ⟨arr, hTO, ha⟩, hi⟩ := st
    rcases List.mem_cons.mp hc with q | hc
    · rw [q]; exact ⟨_, hz, fun v q => nomatch q⟩
    rcases List.mem_cons.mp hc with q | hc
    · rw [q]; exact ⟨_, hTI, fun v q => nomatch q⟩
    rcases List.mem_cons.mp hc with q | hc
    · rw [q]; exact ⟨_, hTO, fun v q => nomatch q⟩
    obtain ⟨p, pm, rfl⟩ := List.mem_map.mp hc
    obtain ⟨o, e, _, d⟩ := hi p pm
    exact ⟨o, e, fun v q => by rw [d] at q; cases q⟩
  keep := fun i h h' st k => by
    obtain ⟨⟨f0, f, hz, h0⟩, hTI, ⟨arr, hTO, ha⟩, hi⟩ := st
    exact ⟨⟨f0, f, k z (by simp) _ hz, h0⟩, k TI (by simp) _ hTI, ⟨arr, k TO (by simp) _ hTO, ha⟩, fun p pm => (hi p pm).at fun o q => k p.1 (List.mem_cons_of_mem _ (List.mem_cons_of_mem _ (List.mem_cons_of_mem _ (List.mem_map.mpr ⟨p, pm, rfl⟩)))) o q⟩
  item := by
    intro X hP hw hK hc i pins s σ H E I hf st hg
    subst hP hw hK
    obtain ⟨rows, hr⟩ := hg
    obtain ⟨us, col, l, rv, c, g⟩ := column I _ rows hr
    have hu : ItemsN s.heap ps i us := ⟨by rw [l, List.length_map], fun k p u hp hv => g k p.2 u (by rw [List.getElem?_map, hp]; rfl) hv⟩
    refine pyNext_zipN_item S st hne hn hu fun h' st' hT hsz hk => ?_
    refine ⟨_, rfl, ?_⟩
    refine (wpAny_pure ?_ : wpAny _ _ (pure ()) _ _ _)
    have new : ObjOk X.prog X.w (upd H s.heap.objs.size (.tup col)) h' s.heap.objs.size (.tup col) :=
      ⟨by show col.length ≤ sizeLine; rw [rv.length, l, List.length_map]; exact Nat.le_trans hn (by decide), us, rv, ⟨_, hT, rfl, _, rfl⟩⟩
    have I1 : Inv X pins σ (upd H s.heap.objs.size (.tup col)) { s with heap := h' } :=
      I.turnedNew (t' := s.toks) (ch := z :: TI :: TO :: ps.map (·.1)) (fun c o hb q => hk c o (fun q' => hb (by simp [q'])) (fun q' => hb (by simp [q'])) (fun q' => hb (List.mem_cons_of_mem _ (List.mem_cons_of_mem _ (List.mem_cons_of_mem _ q')))) q) hf (Nat.le_refl _) new
    refine ⟨.ref s.heap.objs.size, _, I1, rfl, ⟨_, col, rfl, I.hok.fresh (Nat.le_refl _), rfl, c⟩, st', fun b hb => ?_⟩
    have hlt : b < s.heap.objs.size := by
      obtain ⟨⟨f0, f, hz, h0⟩, hTI, ⟨arr, hTO, ha⟩, hi⟩ := st
      rcases List.mem_cons.mp hb with q | hb
      · rw [q]; exact Heap.lt_size hz
      rcases List.mem_cons.mp hb with q | hb
      · rw [q]; exact Heap.lt_size hTI
      rcases List.mem_cons.mp hb with q | hb
      · rw [q]; exact Heap.lt_size hTO
      obtain ⟨p, pm, rfl⟩ := List.mem_map.mp hb
      obtain ⟨o, e, _, d⟩ := hi p pm
      exact Heap.lt_size e
    rw [upd_ne (Nat.ne_of_lt hlt)]
    exact (hf b hb).1
  done := by
    intro X hP hw hK hc i pins s σ H E I hf st hg
    subst hP hw hK
    obtain ⟨a, as', xs, e, hq, hle⟩ := hg
    cases ps with
    | nil => exact absurd rfl hne
    | cons p ps =>
      rw [List.map_cons, List.cons.injEq] at e
      obtain ⟨rfl, _⟩ := e
      obtain ⟨its, rx, pl, _⟩ := I.list hq
      have he : its.toArray[i]? = none := by
        have := rx.length
        simp; omega
      refine pyNext_zipN_end (I.ok.hd hc) S st pl.isList he fun h' hk => ⟨rfl, I.turnedL (t' := s.toks) (ch := z :: TI :: TO :: (p :: ps).map (·.1)) (fun c o hb q => hk c o (fun q' => hb (by simp [q'])) (fun q' => hb (List.mem_cons_of_mem _ (List.mem_cons_of_mem _ (List.mem_cons_of_mem _ q')))) q) hf⟩
  self := fun A i s Q E st h => by
    obtain ⟨⟨f0, f, hz, h0⟩, _⟩ := st
    exact pyIter_zipN hz h
end DL
set_option Elab.async false
set_option linter.all false
set_option maxRecDepth 100000
namespace DL
open PySem PySem.Spec PyProof.Rows L2 RZ
theorem zlt {a n k : Nat} (h : a < n + 1 + k) : a < n + (k + 1) := by omega
theorem zne0 {a m : Nat} (h : a < m) : a ≠ m := by omega
theorem zne1 {a m : Nat} (h : a < m) : a ≠ m + 1 := by omega
theorem zne2 {a m : Nat} (h : a < m) : a ≠ m + 2 := by omega
theorem zup {l n k j : Nat} (h : l < n) : l ≠ n + k + j := by omega
theorem zap {l n q : Nat} (h : l < n) (h2 : n ≤ q) : l ≠ q := by omega
theorem itsAt_mem : ∀ {ls : List Addr} {n : Nat} {p : Addr × Addr}, p ∈ itsAt n ls → n ≤ p.1 ∧ p.1 < n + ls.length ∧ p.2 ∈ ls
  | l :: ls, n, p, h => by
    rw [itsAt] at h
    rcases List.mem_cons.mp h with q | q
    · subst q
      exact ⟨Nat.le_refl _, by rw [List.length_cons]; exact Nat.lt_add_of_pos_right (Nat.succ_pos _), List.mem_cons_self ..⟩
    · obtain ⟨a, b, c⟩ := itsAt_mem q
      rw [List.length_cons]
      exact ⟨Nat.le_of_succ_le a, zlt b, List.mem_cons_of_mem _ c⟩
  | [], _, _, h => (List.not_mem_nil h).elim
theorem itsAt_snd : ∀ (ls : List Addr) (n : Nat), (itsAt n ls).map (·.2) = ls
  | [], _ => rfl
  | l :: ls, n => by rw [itsAt, List.map_cons, itsAt_snd ls (n + 1)]
theorem itsAt_nd : ∀ (ls : List Addr) (n : Nat), ((itsAt n ls).map (·.1)).Nodup
  | [], _ => List.nodup_nil
  | l :: ls, n => by
    rw [itsAt, List.map_cons, List.nodup_cons]
    refine ⟨fun h => ?_, itsAt_nd ls (n + 1)⟩
    obtain ⟨q, hq, e⟩ := List.mem_map.mp h
    have := (itsAt_mem hq).1
    have e' : q.1 = n := e
    rw [e'] at this
    exact Nat.not_succ_le_self _ this
theorem sepN_new {n : Nat} {ls : List Addr} (h : ∀ l ∈ ls, l < n) : SepN (n + ls.length + 2) (n + ls.length) (n + ls.length + 1) (itsAt n ls) where
  TIz := Nat.ne_of_lt (Nat.lt_add_of_pos_right (by decide))
  TOz := Nat.ne_of_lt (Nat.lt_succ_self _)
  TITO := Nat.ne_of_lt (Nat.lt_succ_self _)
  iz := fun p hp => ⟨zne2 (itsAt_mem hp).2.1, zne0 (itsAt_mem hp).2.1, zne1 (itsAt_mem hp).2.1⟩
  nd := itsAt_nd ls n
  lz := fun p hp => ⟨zup (h _ (itsAt_mem hp).2.2), zup (h _ (itsAt_mem hp).2.2), fun q hq => zap (h _ (itsAt_mem hp).2.2) (itsAt_mem hq).1⟩
theorem refs_vals : ∀ {as : List Addr} {us : List Value}, Vals (as.map V.ref) us → us = as.map Value.ref
  | [], _, .nil => rfl
  | a :: as, _, .cons r rr => by
    rw [List.map_cons, ← refs_vals rr]
    exact congrArg (· :: _) r
theorem A2.left {α β : Type} {P : α → β → Prop} : ∀ {as : List α} {bs : List β}, A2 P as bs → ∀ a ∈ as, ∃ b, P a b
  | a :: as, b :: bs, h, x, hx => by
    rcases List.mem_cons.mp hx with q | q
    · subst q; exact ⟨b, h.1⟩
    · exact h.2.left x q
  | [], _, _, x, hx => (List.not_mem_nil hx).elim
  | _ :: _, [], h, _, _ => h.elim
def iZipN (K : PySem.W.Frag) (te : TE) : TI := fun σ H R => te σ H fun v H1 => ∃ a as rows, v = .ref a ∧ (SqT K H1 a (as.map .ref) ∨ SqL K H1 a (as.map .ref)) ∧ as ≠ [] ∧ as.length ≤ 13 ∧ A2 (fun a xs => SqL K H1 a xs) as rows ∧ R (ItN K as) H1
theorem pi_zipStar {X : Cx} {e : Expr} {te : TE} {y : Str} {p p2 pos tpos : Pos} (hg : Gl X "zip") (hm : X.mg "zip" = none) (he : PE X e te) (hs : starEach [.Starred e p2] X.env = [(true, eval e X.env)] := by rfl) :
    PI X (.Name y tpos) (.Call (.Name "zip" p) [.Starred e p2] [] pos) (iZipN X.K te) := by
  refine ⟨fun pins s σ H R I h => ?_⟩
  refine Call_ (ld_blt I hg hm PyProof.Rows.boot_zip (callWith_typeStar (thn (he.run pins s σ H _ I h) fun v s1 ⟨y, H1, I1, r1, q1⟩ => ?_) hs))
  obtain ⟨a, as, rows, rfl, hx, ne, hn, h2, q⟩ := q1
  obtain rfl : v = Value.ref a := r1
  refine StX.star_any I1 hx fun us s2 I2 rv => ?_
  rw [refs_vals rv]
  have hl : ∀ l ∈ as, ∃ xs, s2.heap.IsList l xs := fun l hm => by
    obtain ⟨xs, hq⟩ := h2.left l hm
    obtain ⟨its, _, pl, _⟩ := I2.list hq
    exact ⟨_, pl.isList⟩
  have lt : ∀ l ∈ as, l < s2.heap.objs.size := fun l hm => by
    obtain ⟨xs, hq⟩ := h2.left l hm
    obtain ⟨its, _, pl, _⟩ := I2.list hq
    exact pl.lt
  refine call_zipN hn hl fun h' hm => pyIter_zipN hm.1 ?_
  have I3 : Inv X pins σ H1 { s2 with heap := h' } := I2.kept (t' := s2.toks) hm.2.2.2.2.2
  have tn := turn_zipN (P := X.prog) (w := X.w) (K := X.K) (x := y) (tpos := tpos) (sepN_new lt) (fun e => ne (by rw [← itsAt_snd as s2.heap.objs.size, e]; rfl)) (by rw [itsAt_len]; exact hn)
  rw [itsAt_snd] at tn
  refine ⟨s2.heap.objs.size + as.length + 2, _, _, _, H1, rfl, I3, tn, ⟨⟨_, false, hm.1, .inl rfl⟩, hm.2.1, ⟨_, hm.2.2.1, by rw [List.length_map, List.length_map]⟩, hm.2.2.2.1⟩, fun c hc => ?_, q⟩
  have hle : s2.heap.objs.size ≤ c := by
    rcases List.mem_cons.mp hc with q | hc
    · rw [q]; exact Nat.le_trans (Nat.le_add_right _ _) (Nat.le_add_right _ _)
    rcases List.mem_cons.mp hc with q | hc
    · rw [q]; exact Nat.le_add_right _ _
    rcases List.mem_cons.mp hc with q | hc
    · rw [q]; exact Nat.le_trans (Nat.le_add_right _ _) (Nat.le_add_right _ _)
    obtain ⟨r, hr, rfl⟩ := List.mem_map.mp hc
    exact (itsAt_mem hr).1
  have := I2.fpOk hle (I2.hok.fresh hle)
  exact this
/-! ### zip(*rows), rows a list of lists of one length -/
def gZipN (g : GE) : GI := fun δ μ R => g δ μ fun d μ1 => ∃ (rs : List (List D)) (m : Nat), d = .lst (rs.map D.lst) ∧ rs ≠ [] ∧ rs.length ≤ 13 ∧ (∀ r ∈ rs, r.length = m) ∧ R ((List.range m).map fun i => D.tup (rs.map fun r => r.getD i D.non)) μ1
theorem rows_of {K : PySem.W.Frag} {H : Hp} {μ : Mu} {m : Nat} : ∀ (rs : List (List D)) (vs : List V), (∀ r ∈ rs, r.length = m) → RepL K H μ (rs.map D.lst) vs →
    ∃ as rows, vs = as.map V.ref ∧ as.length = rs.length ∧ A2 (fun a xs => H a = some (.lst xs) ∧ μ a = none ∧ xs.length = m) as rows ∧ A2 (fun r xs => RepL K H μ r xs) rs rows
  | [], vs, _, h => by
    unfold RepL at h
    exact ⟨[], [], h, rfl, trivial, trivial⟩
  | r :: rs, vs, hl, h => by
    rw [List.map_cons] at h
    unfold RepL at h
    obtain ⟨v, w, rfl, hr, hrest⟩ := h
    obtain ⟨as, rows, rfl, l, h1, h2⟩ := rows_of rs w (fun q hq => hl q (List.mem_cons_of_mem _ hq)) hrest
    obtain ⟨a, xs, rfl, e1, e2, rl⟩ := rep_lst hr
    exact ⟨a :: as, xs :: rows, rfl, by rw [List.length_cons, List.length_cons, l], ⟨⟨e1, e2, rl.length.trans (hl r (List.mem_cons_self ..))⟩, h1⟩, ⟨rl, h2⟩⟩
theorem col_rep {K : PySem.W.Frag} {H H1 : Hp} {μ μ1 : Mu} {m i : Nat} (k : Kp H1 μ1 H μ) : ∀ (as : List Addr) (rows : List (List V)) (rs : List (List D)) (col : List V), A2 (fun a xs => H1 a = some (.lst xs) ∧ μ1 a = none ∧ xs.length = m) as rows → A2 (fun r xs => RepL K H1 μ1 r xs) rs rows →
    A2 (fun a x => ∀ xs, SqL K H a xs → xs[i]? = some x) as col → RepL K H μ (rs.map fun r => r.getD i D.non) col
  | [], [], [], [], _, _, _ => RepL.nil
  | a :: as, xs :: rows, r :: rs, x :: col, h1, h2, h3 => by
    have hx := h3.1 xs (SqL.of (k.k1 _ _ h1.1.1 h1.1.2.1))
    obtain ⟨d, e3, r3⟩ := ((h2.1 : RepL K H1 μ1 r xs).mono k).atV hx
    rw [List.map_cons]
    unfold RepL
    refine ⟨x, col, rfl, ?_, col_rep k as rows rs col h1.2 h2.2 h3.2⟩
    rw [List.getD_eq_getElem?_getD, e3]
    exact r3
  | [], [], [], _ :: _, _, _, h => h.elim
  | [], [], _ :: _, _, _, h, _ => h.elim
  | [], _ :: _, _, _, h, _, _ => h.elim
  | _ :: _, [], _, _, h, _, _ => h.elim
  | _ :: _, _ :: _, [], _, _, h, _ => h.elim
  | _ :: _, _ :: _, _ :: _, [], _, _, h => h.elim
theorem di_zipN {X : Cx} {e : Expr} {g : GE} {y : Str} {p p2 pos tpos : Pos} (hg : Gl X "zip") (hm : X.mg "zip" = none) (h : DE X e g) (hs : starEach [.Starred e p2] X.env = [(true, eval e X.env)] := by rfl) :
    DI X (.Name y tpos) (.Call (.Name "zip" p) [.Starred e p2] [] pos) (gZipN g) := by
  obtain ⟨t, a1, a2⟩ := h.ex
  refine ⟨_, pi_zipStar hg hm a1 hs, fun σ H δ μ Q R rm rs q f => ?_⟩
  refine a2 σ H δ μ _ _ rm rs q fun v d H1 μ1 k1 rm1 r1 q1 => ?_
  obtain ⟨rs, m, rfl, ne, hn, hl, q1⟩ := q1
  obtain ⟨a, vs, rfl, hH, hn1, rl⟩ := rep_lst r1
  obtain ⟨as, rows, rfl, l, h1, h2⟩ := rows_of rs vs hl rl
  have ne' : as ≠ [] := fun e => ne (List.eq_nil_of_length_eq_zero (by rw [← l, e]; rfl))
  have sq : ∀ {H' μ'}, Kp H1 μ1 H' μ' → A2 (fun a xs => SqL X.K H' a xs ∧ xs.length = m) as rows := fun k => h1.imp fun a xs h => ⟨SqL.of (k.k1 _ _ h.1 h.2.1), h.2.2⟩
  have sq0 : A2 (fun a xs => SqL X.K H1 a xs) as rows := h1.imp fun a xs h => SqL.of h.1
  refine ⟨a, as, rows, rfl, .inr (SqL.of hH), ne', by rw [l]; exact hn, sq0, f _ ((List.range m).map fun i => D.tup (rs.map fun r => r.getD i D.non)) H1 μ1 k1 rm1 ?_ q1⟩
  have len : ((List.range m).map fun i => D.tup (rs.map fun r => r.getD i D.non)).length = m := by rw [List.length_map, List.length_range]
  refine ⟨fun i H' hi ⟨μ', k, _⟩ => ?_, fun H' ⟨μ', k, _⟩ => ?_, fun i H' v H2 hi _ y => ?_⟩
  · rw [len] at hi
    exact ⟨rows, (sq k).imp fun a xs h => ⟨h.1, by rw [h.2]; exact hi⟩⟩
  · rw [len]
    cases as with
    | nil => exact absurd rfl ne'
    | cons b as =>
      cases rows with
      | nil => exact h1.elim
      | cons xs rows => exact ⟨b, as, xs, rfl, (sq k).1.1, Nat.le_of_eq (sq k).1.2⟩
  · intro μ' k rm
    obtain ⟨T, col, rfl, nT, rfl, hc⟩ := y
    rw [len] at hi
    have nm : μ' T = none := rm.free nT
    have k2 : Kp H' μ' (upd H' T (.tup col)) μ' := Kp.new nT
    refine ⟨D.tup (rs.map fun r => r.getD i D.non), ?_, ?_, k2, rm.laid nT⟩
    · rw [List.getElem?_map, List.getElem?_range hi]
      rfl
    · unfold Rep
      exact ⟨T, _, rfl, .inl ⟨upd_same, nm⟩, (col_rep k as rows rs col h1 h2 hc).mono k2⟩
end DL
set_option Elab.async false
set_option linter.all false
set_option maxRecDepth 100000
namespace DL
open PySem PySem.Spec PyProof.Rows L2 RZ
/-! ### break -/
/-! ### zip of two lists -/
def pairsL (xs ys : List D) : List D := List.zipWith (fun c d => D.tup [c, d]) xs ys
/-! ### cells in a list, all forgotten at once -/
theorem repL_split {K : PySem.W.Frag} {H : Hp} {μ : Mu} {d : D} {post : List D} : ∀ (pre : List D) (vs : List V), RepL K H μ (pre ++ d :: post) vs → ∃ v1 x v2, vs = v1 ++ x :: v2 ∧ RepL K H μ pre v1 ∧ Rep K H μ d x ∧ RepL K H μ post v2
  | [], vs, h => by
    rw [List.nil_append] at h
    unfold RepL at h
    obtain ⟨x, r, rfl, h1, h2⟩ := h
    exact ⟨[], x, r, rfl, RepL.nil, h1, h2⟩
  | p :: pre, vs, h => by
    rw [List.cons_append] at h
    unfold RepL at h
    obtain ⟨y, r, rfl, h1, h2⟩ := h
    obtain ⟨v1, x, v2, rfl, a, b, c⟩ := repL_split pre r h2
    exact ⟨y :: v1, x, v2, rfl, by unfold RepL; exact ⟨y, v1, rfl, h1, a⟩, b, c⟩
theorem repL_join {K : PySem.W.Frag} {H : Hp} {μ : Mu} {d : D} {post : List D} {x : V} {v2 : List V} (b : Rep K H μ d x) (c : RepL K H μ post v2) : ∀ (pre : List D) (v1 : List V), RepL K H μ pre v1 → RepL K H μ (pre ++ d :: post) (v1 ++ x :: v2)
  | [], v1, h => by
    unfold RepL at h
    subst h
    show RepL K H μ (d :: post) (x :: v2)
    unfold RepL
    exact ⟨x, v2, rfl, b, c⟩
  | p :: pre, v1, h => by
    unfold RepL at h
    obtain ⟨y, r, rfl, h1, h2⟩ := h
    show RepL K H μ (p :: (pre ++ d :: post)) (y :: (r ++ x :: v2))
    unfold RepL
    exact ⟨y, _, rfl, h1, repL_join b c pre r h2⟩
theorem Into.item {d d' : D} {μ μ' : Mu} {pre post : List D} (h : Into d μ d' μ') : Into (.lst (pre ++ d :: post)) μ (.lst (pre ++ d' :: post)) μ' := ⟨fun K H v rm r => by
  obtain ⟨a, vs, rfl, hH, hn, rl⟩ := rep_lst r
  obtain ⟨v1, x, v2, rfl, r1, r2, r3⟩ := repL_split pre vs rl
  obtain ⟨k, rm', r2'⟩ := h.ok K H x rm r2
  refine ⟨k, rm', ?_⟩
  unfold Rep
  exact ⟨a, _, rfl, hH, k.free hH hn, repL_join r2' (r3.mono k) pre v1 (r1.mono k)⟩⟩
def dels (μ : Mu) : List Addr → Mu
  | [] => μ
  | a :: as => dels (del μ a) as
theorem dels_in : ∀ (as : List Addr) (μ : Mu) (b : Addr), b ∈ as → dels μ as b = none ∨ False
  | a :: as, μ, b, h => by
    rw [dels]
    by_cases hb : b ∈ as
    · exact dels_in as _ b hb
    · have e : b = a := by
        rcases List.mem_cons.mp h with q | q
        · exact q
        · exact absurd q hb
      subst e
      refine .inl ?_
      have : ∀ (as : List Addr) (μ : Mu), μ b = none → dels μ as b = none := fun as => by
        induction as with
        | nil => exact fun μ h => h
        | cons c as ih =>
          intro μ h
          rw [dels]
          refine ih _ ?_
          by_cases hc : b = c
          · subst hc; exact del_same
          · rw [del_ne hc]; exact h
      exact this as _ del_same
  | [], _, _, h => (List.not_mem_nil h).elim
theorem dels_out : ∀ (as : List Addr) (μ : Mu) (b : Addr), b ∉ as → dels μ as b = μ b
  | [], _, _, _ => rfl
  | a :: as, μ, b, h => by
    rw [dels, dels_out as _ b fun q => h (List.mem_cons_of_mem _ q)]
    exact del_ne fun q => h (by rw [q]; exact List.mem_cons_self ..)
theorem Into.frzAll : ∀ (as : List Addr) (rs : List (List D)) (pre : List D) (μ : Mu), A2 (fun a r => μ a = some (.lst r)) as rs → as.Nodup → Into (.lst (pre ++ as.map D.adr)) μ (.lst (pre ++ rs.map D.lst)) (dels μ as)
  | [], [], pre, μ, _, _ => .refl
  | a :: as, r :: rs, pre, μ, h, nd => by
    have nd' := List.nodup_cons.mp nd
    have one : Into (.lst (pre ++ D.adr a :: as.map D.adr)) μ (.lst (pre ++ D.lst r :: as.map D.adr)) (del μ a) := (Into.frz h.1).item
    have rest : A2 (fun b r => del μ a b = some (.lst r)) as rs := by
      have h2 := h.2
      have nn := nd'.1
      clear one nd nd' h
      induction as generalizing rs with
      | nil => cases rs with
        | nil => trivial
        | cons _ _ => exact h2.elim
      | cons b as ih => cases rs with
        | nil => exact h2.elim
        | cons q rs =>
          refine ⟨?_, ih rs h2.2 fun z => nn (List.mem_cons_of_mem _ z)⟩
          show del μ a b = _
          rw [del_ne fun e => nn (by rw [← e]; exact List.mem_cons_self ..)]
          exact h2.1
    have two := Into.frzAll as rs (pre ++ [D.lst r]) (del μ a) rest nd'.2
    rw [List.append_assoc, List.append_assoc] at two
    exact one.trans two
  | [], _ :: _, _, _, h, _ => h.elim
  | _ :: _, [], _, _, h, _ => h.elim
end DL
set_option Elab.async false
set_option linter.all false
set_option maxRecDepth 100000
namespace DL
open PySem PySem.Spec PyProof.Rows L2
/-! ### defs whose last parameters have numbers as defaults -/
end DL
set_option Elab.async false
set_option linter.all false
set_option maxRecDepth 100000
namespace DL
open PySem PySem.Spec PyProof.Rows L2
/-! ### in, of a list of bools -/
/-! ### repr of a few long numbers -/
structure ShowOkW (p : PyData) : Prop where
  lay : PyData.canLay0 p = true
  shrt : p.intsShort 600 = true
  show_ : p.showable = true
  dp : p.depth ≤ 20
  wt : p.weight ≤ 20000
theorem ShowOkW.len {p : PyData} (h : ShowOkW p) : p.shown.length ≤ sizeLine := by
  have h1 := PyData.shown_le 600 (by decide) p (PyData.leavesShort_of_canLay0 600 p h.lay h.shrt)
  have := h.wt
  rw [sizeLine_eq]
  omega
end DL
set_option Elab.async false
set_option linter.all false
set_option maxRecDepth 100000
namespace DL
open PySem PySem.Spec PyProof.Rows L2 PySem.W
/-! ### sorted and min of nested data -/
section
variable {h : Heap}
theorem readsAll_ix : ∀ {us : List Value} {ps : List PyData} {as : List Addr} {i : Nat} {u : Value}, ReadsAll h us ps as → us[i]? = some u → ∃ p as, ps[i]? = some p ∧ Reads h u p as
  | _, _, _, 0, u, .cons r _, e => by
    obtain rfl := Option.some.inj e
    exact ⟨_, _, rfl, r⟩
  | _, _, _, i + 1, u, .cons _ t, e => readsAll_ix (i := i) t (by simpa using e)
  | _, _, _, _, _, .nil, e => by simp at e
end
section
variable {X : Cx}
/-- min of alike data: the item itself -/
def minAt (xs : List V) (ps : List PyData) (F : V → Prop) : Prop := ∀ (p0 : PyData) (pr : List PyData), ps = p0 :: pr → ∀ (i : Nat) (x : V), xs[i]? = some x → ps[i]? = some (minD p0 pr) → F x
def rMinD (K : PySem.W.Frag) : List V → Hp → VK → Prop := fun vs H Q => ∃ (a : Addr) (xs : List V) (ps : List PyData), vs = [V.ref a] ∧ SqL K H a xs ∧ DpAll K H xs ps ∧ AlikeAll ps ∧ PyData.depthAll ps ≤ 20 ∧ ps ≠ [] ∧ minAt xs ps fun x => Q x H
theorem min_end {pins : List (Addr × Obj)} {s : Shared} {σ : L2.St} {H : Hp} {Q : VK} {xs : List V} {ps : List PyData} {vals : List Value} {as : List Addr} (I : Inv X pins σ H s) (rv : Vals xs vals) (ra : ReadsAll s.heap vals ps as) (q : minAt xs ps fun x => Q x H)
    {p0 : PyData} {pr : List PyData} (e : ps = p0 :: pr) {i : Nat} {v : Value} {h' : Heap} {tk : Nat} {bs : List Addr} (hv : vals[i]? = some v) (rd : Reads h' v (minD p0 pr) bs) (hk : ∀ b o, s.heap.get? b = some o → h'.get? b = some o) : EP X pins σ Q v { s with heap := h', toks := tk } := by
  obtain ⟨p, as', hp, r1⟩ := readsAll_ix ra hv
  have r2 : Reads h' v p as' := PyProof.Rows.Reads.keeps hk r1
  have e1 : p = minD p0 pr := (PySem.Reads.unique r2 _ _ rd).1
  obtain ⟨x, hx, rx⟩ : ∃ x, xs[i]? = some x ∧ RelV x v := by
    have hi : i < vals.length := (List.getElem?_eq_some_iff.mp hv).1
    have hi' : i < xs.length := by rw [rv.length]; exact hi
    have hx : xs[i]? = some (xs[i]'hi') := List.getElem?_eq_getElem hi'
    obtain ⟨u, hu, ru⟩ := rv.get hx
    rw [hv] at hu
    obtain rfl := Option.some.inj hu
    exact ⟨_, hx, ru⟩
  exact ⟨x, H, I.kept (t' := tk) hk, rx, q p0 pr e i x hx (by rw [hp, e1])⟩
theorem cr_minD (hc : X.calm = true) (hu : X.A.units + 64 < cLine) : CallR X (.builtin "min") (rMinD X.K) := by
  intro pins s σ H xs0 us Q I r h
  obtain ⟨a, xs, ps, rfl, hs, hd, hal, hdep, hne, q⟩ := h
  obtain ⟨vals, rv, hl, hz⟩ := I.list hs
  rw [Vals.ref1 r]
  obtain ⟨as, ra⟩ := Dp.readsAll I ps xs vals hd rv
  cases ps with
  | nil => exact absurd rfl hne
  | cons p0 pr =>
    exact min_list_data (I.ok.hd hc) hl.isList (by simpa using ra) hal (by omega) fun i v h' tk bs hv rd hk => min_end I rv ra q rfl (by simpa using hv) rd hk
end
/-! readings -/
def minDs (ds : List D) (R : D → Prop) : Prop := ∃ ps, pyL ds = some ps ∧ AlikeAll ps ∧ PyData.depthAll ps ≤ 20 ∧ ps ≠ [] ∧ ∀ (p0 : PyData) (pr : List PyData), ps = p0 :: pr → ∀ (i : Nat) (d : D), ds[i]? = some d → py d = some (minD p0 pr) → R d
def gMinD1 : G1 := fun x μ R => match x with
  | .lst ds => minDs ds fun d => R d μ
  | _ => False
theorem pyL_at : ∀ {ds : List D} {ps : List PyData} {i : Nat} {d : D} {p : PyData}, pyL ds = some ps → ds[i]? = some d → ps[i]? = some p → py d = some p
  | [], _, _, _, _, _, h, _ => by simp at h
  | d :: ds, ps, i, e, p, h, h1, h2 => by
    unfold pyL at h
    cases a : py d with
    | none => rw [a] at h; cases h
    | some q =>
      cases b : pyL ds with
      | none => rw [a, b] at h; cases h
      | some qs =>
        rw [a, b] at h
        obtain rfl := Option.some.inj h
        cases i with
        | zero =>
          obtain rfl := Option.some.inj h1
          obtain rfl := Option.some.inj h2
          exact a
        | succ i => exact pyL_at b (by simpa using h1) (by simpa using h2)
section
variable {K : PySem.W.Frag}
theorem minAt_of {H : Hp} {μ : Mu} {ds : List D} {vs : List V} {ps : List PyData} {R : KD} {Q : VK} (rm : RM K H μ) (l : RepL K H μ ds vs) (hp : pyL ds = some ps) (f : Fw K H μ R Q)
    (q : ∀ (p0 : PyData) (pr : List PyData), ps = p0 :: pr → ∀ (i : Nat) (d : D), ds[i]? = some d → py d = some (minD p0 pr) → R d μ) : minAt vs ps fun x => Q x H := by
  intro p0 pr e i x hx hm
  have hi : i < ds.length := by
    have := (List.getElem?_eq_some_iff.mp hx).1
    rw [l.length] at this
    exact this
  have hd : ds[i]? = some (ds[i]'hi) := List.getElem?_eq_getElem hi
  obtain ⟨v, hv, r⟩ := l.at_ hd
  rw [hx] at hv
  obtain rfl := Option.some.inj hv
  exact f _ _ H μ (Kp.refl _ _) rm r (q p0 pr e i _ hd (pyL_at hp hd hm))
theorem sim_minD : SimC K (rMinD K) (g1 gMinD1) := sim_g1 fun v d H μ Q R rm rv q f => by
  cases d <;> try exact False.elim q
  obtain ⟨ps, hp, ha, hd, hn, q⟩ := q
  obtain ⟨a, vs, rfl, i, _, l⟩ := rep_lst rv
  exact ⟨a, vs, ps, rfl, SqL.of i, RepL.dp _ _ _ l hp, ha, hd, hn, minAt_of rm l hp f q⟩
end
end DL
set_option Elab.async false
set_option linter.all false
set_option maxRecDepth 100000
namespace DL
open PySem PySem.Spec PyProof.Rows L2
/-! ### len of an instance whose class has a __len__ of its own -/
end DL
set_option Elab.async false
set_option linter.all false
set_option maxRecDepth 100000
namespace DL
open PySem PySem.Spec PyProof.Rows L2
/-! ### != of two instances whose class has an __eq__ of its own and no __ne__ -/
section
open PySem.W Builtin
variable {prog : Program} {w : World} {A : Around} {E : Value → Shared → Prop} {s : Shared} {K : Frag} {x C L f : Addr} {h₀ : Heap} {m : Str → Option Value} {ox : Obj} {od : Option Obj} {b tb : Value}
theorem one_slot : Slot "object" "__ne__" "object.__ne__" := Slot.of (T := "object") (name := "__ne__") (owner := "object") (n := "__ne__") (by rw [typeLookup_type, builtinLookup_eq_fast]; kernel_rfl) (by decide +kernel) (by decide +kernel) (by decide +kernel) (.inl (by decide +kernel)) (by rw [isSubtype_type]; kernel_rfl)
theorem one_bind (self : Value) : bindSpecial (.builtin "object.__ne__") self = pure (.builtin "object.__ne__", [self]) := one_slot.bind self
theorem ifBound_B {M : Model} {id : String} {name : Str} {args : List Value} {Q : Option Value → Shared → Prop} (X : K.In s.heap) (I : InstAt s.heap x ox C od) (hs : findIn K (.ref C) name = some (some (.builtin id)))
    (hb : ∀ self : Value, bindSpecial (.builtin id) self = pure (.builtin id, [self]))
    (h : wpAny M A (call (.builtin id) (.ref x :: args)) (fun v => Q (some v)) E s) : wpAny M A (callSpecialIfBound? (.ref x) name args) Q E s := by
  simp only [callSpecialIfBound?, bindSpecialIfBound?]
  refine wpAny_holding (wpAny_bind (wpAny_bind (wpAny_bind (I.type.here ((looks_findIn X hs).here ?_)))))
  simp only [hb]
  refine wpAny_bind (wpAny_askSetting (wpAny_ite ?_))
  have fin : wpAny M A (call (.builtin id) ([.ref x] ++ args) >>= fun v => pure (some v)) Q E s := wpAny_bind (wpAny_mono h (fun v s' h' => wpAny_pure h') fun _ _ h' => h')
  split
  · exact wpAny_bind (wpAny_pure (wpAny_pure fin))
  · exact wpAny_tryCatch (wpAny_bind (wpAny_pure (wpAny_pure fin)))
theorem ne_K {Q : Value → Shared → Prop} (hu : A.units + 1 < cLine) (Fx : Fr h₀ L s.heap m) (X₀ : K.In h₀) (I : InstAt s.heap x ox C od) (hb : Looks (model prog w) s.heap (typeOf b) tb) (hn : notFirst K C tb = true)
    (hne : findIn K (.ref C) "__ne__" = some (some (.builtin "object.__ne__"))) (hs : findIn K (.ref C) "__eq__" = some (some (.ref f))) (hf : isFn K (.ref f) = true) (hob : subIn K (.ref C) (.type "object") = some true)
    (h : wpAny (model prog w) A.in1 (call (.ref f) [.ref x, b]) (fun v s' => ∃ c, v = .bool c ∧ Q (.bool (!c)) s') E s) : wpAny (model prog w) A (richCompare .NotEq (.ref x) b) Q E s := by
  have X := X₀.keeps Fx.keep
  have one : wpAny (model prog w) A (tryCompare (.ref x) (cmpInfo .NotEq).2.1 b) (fun r s' => ∃ v, r = some v ∧ Q v s') E s := by
    unfold tryCompare
    refine wpAny_bind (ifBound_B X I hne one_bind (wpAny_call (codeAny_call_builtin one_slot.plain PySem.F.cmpEntry_ne (check_slot PySem.F.cmpKind_ne PySem.F.cmpSplit_ne (I.type.andThen (looks_subIn X hob)) (PySem.F.cmpArgs_ne _ _) ?_))))
    unfold Builtin.«object.__ne__»
    refine wpAny_bind (m := slotArgs "__ne__" 1 _) (wpAny_pure ?_)
    refine wpAny_bind (wpAny_cRoomFor hu ?_)
    refine wpAny_bind (m := callSpecialIfBound? (.ref x) (Str.ofString "__eq__") [b]) (ifBound_K X I hs hf (wpAny_mono h (fun v s' hv => ?_) fun _ _ e => e))
    obtain ⟨c, rfl, hq⟩ := hv
    refine wpAny_bind (m := truthy (.bool _)) (wpAny_truthy_bool ?_)
    exact wpAny_pure (wpAny_pure ⟨_, rfl, hq⟩)
  unfold richCompare
  simp only [oneThing_ref]
  refine wpAny_holding (wpAny_bind (wpAny_cRoomFor (by omega) ?_))
  refine wpAny_bind (I.type.here (wpAny_bind (hb.here ?_)))
  split
  · rename_i q
    have e : subIn K tb (.ref C) = some false := by
      rcases Bool.or_eq_true_iff.mp hn with e | e
      · rw [beq_iff_eq.mp e] at q; simp at q
      · exact beq_iff_eq.mp e
    refine wpAny_bind ((looks_subIn X e).here ?_)
    simp only [Bool.false_eq_true, if_false]
    refine wpAny_bind (wpAny_mono one (fun r s' z => ?_) fun _ _ e => e)
    obtain ⟨v, rfl, hq⟩ := z
    exact wpAny_pure hq
  · refine wpAny_bind (wpAny_pure ?_)
    simp only [Bool.false_eq_true, if_false]
    refine wpAny_bind (wpAny_mono one (fun r s' z => ?_) fun _ _ e => e)
    obtain ⟨v, rfl, hq⟩ := z
    exact wpAny_pure hq
end
def rNeI (C : Addr) (sp : Sp) : R2 := fun x y H Q => ∃ a b dx dy fs gs, x = .ref a ∧ y = .ref b ∧ H a = some (.ins C dx fs) ∧ H b = some (.ins C dy gs) ∧ sp [.ref a, .ref b] H (fun v H' => ∃ c, v = .bl c ∧ Q (.bl (!c)) H') E0
section
variable {X : Cx} {k : Nat} {f C : Addr} {fd : FuncData} {sp : Sp} {ps : List Str}
theorem op_neI (F : FnOk X.prog X.w X.K X.mg X.base CX0 k f fd ps sp) (hr : Room (k + 1) X.A) (hb : Binds X.K fd ps []) (hl : ps.length = 2)
    (hne : PySem.W.findIn X.K (.ref C) "__ne__" = some (some (.builtin "object.__ne__"))) (hs : PySem.W.findIn X.K (.ref C) "__eq__" = some (some (.ref f))) (hf : PySem.W.isFn X.K (.ref f) = true) (hob : PySem.W.subIn X.K (.ref C) (.type "object") = some true) :
    OpR X (compareOp .NotEq) (rNeI C sp) := by
  intro pins s σ H x y v u Q I rx ry hq
  obtain ⟨a, b, dx, dy, fs, gs, rfl, rfl, ha, hb', q⟩ := hq
  cases rx
  cases ry
  obtain ⟨mA, J, _⟩ := ins_get I.hok ha
  obtain ⟨mB, J', _⟩ := ins_get I.hok hb'
  obtain ⟨od, J, _⟩ := J.look
  obtain ⟨od', J', _⟩ := J'.look
  obtain ⟨m, hF⟩ := I.fr
  show wpAny (model X.prog X.w) X.A (richCompare .NotEq (.ref a) (.ref b)) (EP X pins σ Q) X.xe s
  refine ne_K (tb := .ref C) (by have := hr.units; omega) hF I.ok.mod.kin J J'.type (by simp [PySem.W.notFirst]) hne hs hf hob ?_
  have r2 : Vals [V.ref a, V.ref b] [Value.ref a, Value.ref b] := .cons rfl (.cons rfl .nil)
  have hl2 : ([Value.ref a, Value.ref b] ++ []).length = ps.length := by rw [hl]; rfl
  refine wpAny_call (codeAny_mono (F.run X.A.in1 X.stack s H ⟨[.ref a, .ref b], []⟩ [.ref a, .ref b] [.ref a, .ref b] _ E0 hr.in1 I.env0.in1 (by have := hb s [.ref a, .ref b] I.kIn hl2; rwa [List.append_nil] at this) r2 q) fun r s' hq => ?_)
  cases r with
  | error e => exact pass0 (X := X) pins σ H s e s' I hq
  | ok fl =>
    cases fl with
    | ret w =>
      obtain ⟨z, H', I', rz, c, rfl, q'⟩ := I.after hq
      cases rz
      exact ⟨c, rfl, .bl (!c), H', I', rfl, q'⟩
    | next => exact False.elim hq
    | brk => exact False.elim hq
    | cont => exact False.elim hq
end
def gNeI (C : Addr) (g : GC) : G2 := fun x y μ R => ∃ fs gs, x = .ins C fs ∧ y = .ins C gs ∧ g [x, y] μ fun d μ' => ∃ c, d = .bl c ∧ R (.bl (!c)) μ'
theorem sim_neI {K : PySem.W.Frag} {C : Addr} {g : GC} : SimO K (rNeI C (toSp K g)) (gNeI C g) := by
  intro x y dx dy H μ Q R rm rx ry q f
  obtain ⟨fs, gs, rfl, rfl, q⟩ := q
  have rx0 := rx
  have ry0 := ry
  obtain ⟨a, dxa, va, rfl, ea, na, rfa⟩ := rep_ins rx
  obtain ⟨b, dxb, vb, rfl, eb, nb, rfb⟩ := rep_ins ry
  refine ⟨a, b, dxa, dxb, va, vb, rfl, rfl, ea, eb, [.ins C fs, .ins C gs], μ, _, rm, RepL.cons rx0 (RepL.cons ry0 RepL.nil), q, fun w d' H' μ' kp rm' r' q' => ?_⟩
  obtain ⟨c, rfl, q'⟩ := q'
  have e : w = .bl c := by
    unfold Rep at r'
    exact r'
  subst e
  exact ⟨c, rfl, f _ _ H' μ' kp rm' to_bl q'⟩
/-! ### three, the last two in the other order -/
end DL
set_option Elab.async false
set_option linter.all false
set_option maxRecDepth 100000
namespace K10
open PySem PySem.Spec PyProof.Rows L2 DL
def top (i : Nat) : Stmt := PySem.Challenge.pw_webreckon_k06_whole_webs_renamed.main.body.getD i (.Pass ⟨0, 0, 0, 0⟩)
structure Ad where
  are_letters : Addr
  fd_are_letters : FuncData
  are_places : Addr
  fd_are_places : FuncData
  is_tie : Addr
  fd_is_tie : FuncData
  first_wrong_tie : Addr
  fd_first_wrong_tie : FuncData
  check_places : Addr
  fd_check_places : FuncData
  check_ties : Addr
  fd_check_ties : FuncData
  check_letters : Addr
  fd_check_letters : FuncData
  check_web : Addr
  fd_check_web : FuncData
  in_order : Addr
  fd_in_order : FuncData
  marks : Addr
  fd_marks : FuncData
  with_letters : Addr
  fd_with_letters : FuncData
  renamed : Addr
  fd_renamed : FuncData
  all_orders : Addr
  fd_all_orders : FuncData
  counts_of_ties : Addr
  fd_counts_of_ties : FuncData
  goes_on : Addr
  fd_goes_on : FuncData
  renamings : Addr
  fd_renamings : FuncData
  plain_text : Addr
  fd_plain_text : FuncData
  count_renamings : Addr
  fd_count_renamings : FuncData
  lot_of_all : Addr
  fd_lot_of_all : FuncData
  without : Addr
  fd_without : FuncData
  lots_within : Addr
  fd_lots_within : FuncData
  all_lots : Addr
  fd_all_lots : FuncData
  rank_of : Addr
  fd_rank_of : FuncData
  spare_of : Addr
  fd_spare_of : FuncData
  full_rank : Addr
  fd_full_rank : FuncData
  is_ring_lot : Addr
  fd_is_ring_lot : FuncData
  rings : Addr
  fd_rings : FuncData
  blocks : Addr
  fd_blocks : FuncData
  trees_of : Addr
  fd_trees_of : FuncData
  all_trees : Addr
  fd_all_trees : FuncData
  rows_of_noughts : Addr
  fd_rows_of_noughts : FuncData
  tuple_of_rows : Addr
  fd_tuple_of_rows : FuncData
  counts_of_lots : Addr
  fd_counts_of_lots : FuncData
  shifted : Addr
  fd_shifted : FuncData
  across : Addr
  fd_across : FuncData
  table_of : Addr
  fd_table_of : FuncData
  table : Addr
  fd_table : FuncData
  L_cask : Addr
  fd_L_cask : FuncData
  L_tap : Addr
  fd_L_tap : FuncData
  L_pick : Addr
  fd_L_pick : FuncData
  L_spots : Addr
  fd_L_spots : FuncData
  L_joint : Addr
  fd_L_joint : FuncData
  L_net : Addr
  fd_L_net : FuncData
  L_page : Addr
  fd_L_page : FuncData
  L_orders : Addr
  fd_L_orders : FuncData
  L_by : Addr
  fd_L_by : FuncData
  L_single_right : Addr
  fd_L_single_right : FuncData
  L_stays : Addr
  fd_L_stays : FuncData
  L_right : Addr
  fd_L_right : FuncData
  law : Addr
  fd_law : FuncData
  Web : Addr
  Web_init : Addr
  fd_Web_init : FuncData
  Web_len : Addr
  fd_Web_len : FuncData
  Web_eq : Addr
  fd_Web_eq : FuncData
  Web_text : Addr
  fd_Web_text : FuncData
structure Tx (K : PySem.W.Frag) (mg : Str → Option Value) (A : Ad) : Prop where
  F_are_letters : Fun K "are_letters" "are_letters" (top 12) A.are_letters A.fd_are_letters
  b_are_letters : Binds K A.fd_are_letters ["value"] []
  g_are_letters : mg "are_letters" = some (.ref A.are_letters)
  F_are_places : Fun K "are_places" "are_places" (top 13) A.are_places A.fd_are_places
  b_are_places : Binds K A.fd_are_places ["value"] []
  g_are_places : mg "are_places" = some (.ref A.are_places)
  F_is_tie : Fun K "is_tie" "is_tie" (top 14) A.is_tie A.fd_is_tie
  b_is_tie : Binds K A.fd_is_tie ["places", "value"] []
  g_is_tie : mg "is_tie" = some (.ref A.is_tie)
  F_first_wrong_tie : Fun K "first_wrong_tie" "first_wrong_tie" (top 15) A.first_wrong_tie A.fd_first_wrong_tie
  b_first_wrong_tie : Binds K A.fd_first_wrong_tie ["places", "ties"] []
  g_first_wrong_tie : mg "first_wrong_tie" = some (.ref A.first_wrong_tie)
  F_check_places : Fun K "check_places" "check_places" (top 17) A.check_places A.fd_check_places
  b_check_places : Binds K A.fd_check_places ["places"] []
  g_check_places : mg "check_places" = some (.ref A.check_places)
  F_check_ties : Fun K "check_ties" "check_ties" (top 18) A.check_ties A.fd_check_ties
  b_check_ties : Binds K A.fd_check_ties ["places", "ties"] []
  g_check_ties : mg "check_ties" = some (.ref A.check_ties)
  F_check_letters : Fun K "check_letters" "check_letters" (top 19) A.check_letters A.fd_check_letters
  b_check_letters : Binds K A.fd_check_letters ["web", "letters"] []
  g_check_letters : mg "check_letters" = some (.ref A.check_letters)
  F_check_web : Fun K "check_web" "check_web" (top 22) A.check_web A.fd_check_web
  b_check_web : Binds K A.fd_check_web ["web"] []
  g_check_web : mg "check_web" = some (.ref A.check_web)
  F_in_order : Fun K "in_order" "in_order" (top 23) A.in_order A.fd_in_order
  b_in_order : Binds K A.fd_in_order ["letters"] []
  g_in_order : mg "in_order" = some (.ref A.in_order)
  F_marks : Fun K "marks" "marks" (top 24) A.marks A.fd_marks
  b_marks : Binds K A.fd_marks ["web", "lot"] []
  g_marks : mg "marks" = some (.ref A.marks)
  F_with_letters : Fun K "with_letters" "with_letters" (top 25) A.with_letters A.fd_with_letters
  b_with_letters : Binds K A.fd_with_letters ["web", "letters"] []
  g_with_letters : mg "with_letters" = some (.ref A.with_letters)
  F_renamed : Fun K "renamed" "renamed" (top 26) A.renamed A.fd_renamed
  b_renamed : Binds K A.fd_renamed ["web", "letters"] []
  g_renamed : mg "renamed" = some (.ref A.renamed)
  F_all_orders : Fun K "all_orders" "all_orders" (top 28) A.all_orders A.fd_all_orders
  b_all_orders : Binds K A.fd_all_orders ["letters"] []
  g_all_orders : mg "all_orders" = some (.ref A.all_orders)
  F_counts_of_ties : Fun K "counts_of_ties" "counts_of_ties" (top 29) A.counts_of_ties A.fd_counts_of_ties
  b_counts_of_ties : Binds K A.fd_counts_of_ties ["web"] []
  g_counts_of_ties : mg "counts_of_ties" = some (.ref A.counts_of_ties)
  F_goes_on : Fun K "goes_on" "goes_on" (top 30) A.goes_on A.fd_goes_on
  b_goes_on : Binds K A.fd_goes_on ["counts", "other_counts", "places", "letters"] []
  g_goes_on : mg "goes_on" = some (.ref A.goes_on)
  F_renamings : Fun K "renamings" "renamings" (top 31) A.renamings A.fd_renamings
  b_renamings : Binds K A.fd_renamings ["web", "other_web"] []
  g_renamings : mg "renamings" = some (.ref A.renamings)
  F_plain_text : Fun K "plain_text" "plain_text" (top 32) A.plain_text A.fd_plain_text
  b_plain_text : Binds K A.fd_plain_text ["web"] []
  g_plain_text : mg "plain_text" = some (.ref A.plain_text)
  F_count_renamings : Fun K "count_renamings" "count_renamings" (top 33) A.count_renamings A.fd_count_renamings
  b_count_renamings : Binds K A.fd_count_renamings ["web"] []
  g_count_renamings : mg "count_renamings" = some (.ref A.count_renamings)
  F_lot_of_all : Fun K "lot_of_all" "lot_of_all" (top 35) A.lot_of_all A.fd_lot_of_all
  b_lot_of_all : Binds K A.fd_lot_of_all ["web"] []
  g_lot_of_all : mg "lot_of_all" = some (.ref A.lot_of_all)
  F_without : Fun K "without" "without" (top 36) A.without A.fd_without
  b_without : Binds K A.fd_without ["lot", "index"] []
  g_without : mg "without" = some (.ref A.without)
  F_lots_within : Fun K "lots_within" "lots_within" (top 37) A.lots_within A.fd_lots_within
  b_lots_within : Binds K A.fd_lots_within ["lot"] []
  g_lots_within : mg "lots_within" = some (.ref A.lots_within)
  F_all_lots : Fun K "all_lots" "all_lots" (top 38) A.all_lots A.fd_all_lots
  b_all_lots : Binds K A.fd_all_lots ["web"] []
  g_all_lots : mg "all_lots" = some (.ref A.all_lots)
  F_rank_of : Fun K "rank_of" "rank_of" (top 39) A.rank_of A.fd_rank_of
  b_rank_of : Binds K A.fd_rank_of ["web", "lot"] []
  g_rank_of : mg "rank_of" = some (.ref A.rank_of)
  F_spare_of : Fun K "spare_of" "spare_of" (top 40) A.spare_of A.fd_spare_of
  b_spare_of : Binds K A.fd_spare_of ["web", "lot"] []
  g_spare_of : mg "spare_of" = some (.ref A.spare_of)
  F_full_rank : Fun K "full_rank" "full_rank" (top 41) A.full_rank A.fd_full_rank
  b_full_rank : Binds K A.fd_full_rank ["web"] []
  g_full_rank : mg "full_rank" = some (.ref A.full_rank)
  F_is_ring_lot : Fun K "is_ring_lot" "is_ring_lot" (top 42) A.is_ring_lot A.fd_is_ring_lot
  b_is_ring_lot : Binds K A.fd_is_ring_lot ["web", "lot"] []
  g_is_ring_lot : mg "is_ring_lot" = some (.ref A.is_ring_lot)
  F_rings : Fun K "rings" "rings" (top 43) A.rings A.fd_rings
  b_rings : Binds K A.fd_rings ["web"] []
  g_rings : mg "rings" = some (.ref A.rings)
  F_blocks : Fun K "blocks" "blocks" (top 44) A.blocks A.fd_blocks
  b_blocks : Binds K A.fd_blocks ["web"] []
  g_blocks : mg "blocks" = some (.ref A.blocks)
  F_trees_of : Fun K "trees_of" "trees_of" (top 46) A.trees_of A.fd_trees_of
  b_trees_of : Binds K A.fd_trees_of ["web"] []
  g_trees_of : mg "trees_of" = some (.ref A.trees_of)
  F_all_trees : Fun K "all_trees" "all_trees" (top 47) A.all_trees A.fd_all_trees
  b_all_trees : Binds K A.fd_all_trees ["web"] []
  g_all_trees : mg "all_trees" = some (.ref A.all_trees)
  F_rows_of_noughts : Fun K "rows_of_noughts" "rows_of_noughts" (top 49) A.rows_of_noughts A.fd_rows_of_noughts
  b_rows_of_noughts : Binds K A.fd_rows_of_noughts ["web"] []
  g_rows_of_noughts : mg "rows_of_noughts" = some (.ref A.rows_of_noughts)
  F_tuple_of_rows : Fun K "tuple_of_rows" "tuple_of_rows" (top 50) A.tuple_of_rows A.fd_tuple_of_rows
  b_tuple_of_rows : Binds K A.fd_tuple_of_rows ["rows"] []
  g_tuple_of_rows : mg "tuple_of_rows" = some (.ref A.tuple_of_rows)
  F_counts_of_lots : Fun K "counts_of_lots" "counts_of_lots" (top 51) A.counts_of_lots A.fd_counts_of_lots
  b_counts_of_lots : Binds K A.fd_counts_of_lots ["web"] []
  g_counts_of_lots : mg "counts_of_lots" = some (.ref A.counts_of_lots)
  F_shifted : Fun K "shifted" "shifted" (top 52) A.shifted A.fd_shifted
  b_shifted : Binds K A.fd_shifted ["row"] []
  g_shifted : mg "shifted" = some (.ref A.shifted)
  F_across : Fun K "across" "across" (top 53) A.across A.fd_across
  b_across : Binds K A.fd_across ["rows"] []
  g_across : mg "across" = some (.ref A.across)
  F_table_of : Fun K "table_of" "table_of" (top 54) A.table_of A.fd_table_of
  b_table_of : Binds K A.fd_table_of ["web"] []
  g_table_of : mg "table_of" = some (.ref A.table_of)
  F_table : Fun K "table" "table" (top 55) A.table A.fd_table
  b_table : Binds K A.fd_table ["web"] []
  g_table : mg "table" = some (.ref A.table)
  F_L_cask : Fun K "_law_cask" "_law_cask" (top 57) A.L_cask A.fd_L_cask
  b_L_cask : Binds K A.fd_L_cask ["_law_cells", "_law_at"] []
  g_L_cask : mg "_law_cask" = some (.ref A.L_cask)
  F_L_tap : Fun K "_law_tap" "_law_tap" (top 58) A.L_tap A.fd_L_tap
  b_L_tap : Binds K A.fd_L_tap ["_law_cask_here", "_law_upto"] []
  g_L_tap : mg "_law_tap" = some (.ref A.L_tap)
  F_L_pick : Fun K "_law_pick" "_law_pick" (top 59) A.L_pick A.fd_L_pick
  b_L_pick : Binds K A.fd_L_pick ["_law_cask_here", "_law_things"] []
  g_L_pick : mg "_law_pick" = some (.ref A.L_pick)
  F_L_spots : Fun K "_law_spots" "_law_spots" (top 60) A.L_spots A.fd_L_spots
  b_L_spots : Binds K A.fd_L_spots ["_law_cask_here", "_law_many_here"] []
  g_L_spots : mg "_law_spots" = some (.ref A.L_spots)
  F_L_joint : Fun K "_law_joint" "_law_joint" (top 61) A.L_joint A.fd_L_joint
  b_L_joint : Binds K A.fd_L_joint ["_law_one", "_law_two"] []
  g_L_joint : mg "_law_joint" = some (.ref A.L_joint)
  F_L_net : Fun K "_law_net" "_law_net" (top 62) A.L_net A.fd_L_net
  b_L_net : Binds K A.fd_L_net ["_law_cask_here", "_law_most_spots", "_law_most_rows"] []
  g_L_net : mg "_law_net" = some (.ref A.L_net)
  F_L_page : Fun K "_law_page" "_law_page" (top 63) A.L_page A.fd_L_page
  b_L_page : Binds K A.fd_L_page ["_law_net_here"] []
  g_L_page : mg "_law_page" = some (.ref A.L_page)
  F_L_orders : Fun K "_law_orders" "_law_orders" (top 64) A.L_orders A.fd_L_orders
  b_L_orders : Binds K A.fd_L_orders ["_law_signs"] []
  g_L_orders : mg "_law_orders" = some (.ref A.L_orders)
  F_L_by : Fun K "_law_by" "_law_by" (top 65) A.L_by A.fd_L_by
  b_L_by : Binds K A.fd_L_by ["_law_net_here", "_law_signs"] []
  g_L_by : mg "_law_by" = some (.ref A.L_by)
  F_L_single_right : Fun K "_law_single_right" "_law_single_right" (top 66) A.L_single_right A.fd_L_single_right
  b_L_single_right : Binds K A.fd_L_single_right ["_law_mine", "_law_net_here", "_law_signs"] []
  g_L_single_right : mg "_law_single_right" = some (.ref A.L_single_right)
  F_L_stays : Fun K "_law_stays" "_law_stays" (top 67) A.L_stays A.fd_L_stays
  b_L_stays : Binds K A.fd_L_stays ["_law_mine", "_law_fresh"] []
  g_L_stays : mg "_law_stays" = some (.ref A.L_stays)
  F_L_right : Fun K "_law_right" "_law_right" (top 68) A.L_right A.fd_L_right
  b_L_right : Binds K A.fd_L_right ["_law_cask_here"] []
  g_L_right : mg "_law_right" = some (.ref A.L_right)
  F_law : Fun K "law" "law" (top 69) A.law A.fd_law
  b_law : Binds K A.fd_law ["_law_cells"] []
  g_law : mg "law" = some (.ref A.law)
  z_abs : mg "abs" = none
  z_all : mg "all" = none
  z_dict : mg "dict" = none
  z_divmod : mg "divmod" = none
  z_enumerate : mg "enumerate" = none
  z_int : mg "int" = none
  z_isinstance : mg "isinstance" = none
  z_len : mg "len" = none
  z_list : mg "list" = none
  z_max : mg "max" = none
  z_min : mg "min" = none
  z_range : mg "range" = none
  z_sorted : mg "sorted" = none
  z_str : mg "str" = none
  z_tuple : mg "tuple" = none
  z_zip : mg "zip" = none
  m_comb : mg "comb" = some (.builtin "math.comb")
  c_MOST_PLACES : ∃ t, mg "MOST_PLACES" = some (.int (7) t)
  c_MOST_TIES : ∃ t, mg "MOST_TIES" = some (.int (11) t)
  c_LETTERS : ∃ t, mg "LETTERS" = some (.str "abcdefgh" t)
  g_Web : mg "Web" = some (.ref A.Web)
  k_Web : Cls K A.Web
  i_Web : IsC K A.Web
  n_places : NoAttr K A.Web "places"
  n_ties : NoAttr K A.Web "ties"
  m_Web : Mk K A.Web A.Web_init
  F_Web_init : Fun K "__init__" "Web.__init__" (inClass (top 21) 0) A.Web_init A.fd_Web_init
  b_Web_init : Binds K A.fd_Web_init ["self", "places", "ties"] []
  F_Web_len : Fun K "__len__" "Web.__len__" (inClass (top 21) 4) A.Web_len A.fd_Web_len
  b_Web_len : Binds K A.fd_Web_len ["self"] []
  s_Web_len : PySem.W.findIn K (.ref A.Web) "__len__" = some (some (.ref A.Web_len))
  t_Web_len : PySem.W.typeIn K (.ref A.Web_len) = some (.type "function")
  F_Web_text : Fun K "text" "Web.text" (inClass (top 21) 2) A.Web_text A.fd_Web_text
  b_Web_text : Binds K A.fd_Web_text ["self"] []
  t_Web_text : Meth K A.Web "text" A.Web_text
  F_Web_eq : Fun K "__eq__" "Web.__eq__" (inClass (top 21) 5) A.Web_eq A.fd_Web_eq
  b_Web_eq : Binds K A.fd_Web_eq ["self", "other"] []
  s_Web_eq : PySem.W.findIn K (.ref A.Web) "__eq__" = some (some (.ref A.Web_eq))
  f_Web_eq : PySem.W.isFn K (.ref A.Web_eq) = true
  ne_Web : PySem.W.findIn K (.ref A.Web) "__ne__" = some (some (.builtin "object.__ne__"))
  ob_Web : PySem.W.mroIn K A.Web (.type "object") = some true
  kb_renamed : KBn K A.fd_renamed ["web", "letters"] 0 ["letters", "web"] (fun _ ws => swp2 ws) (fun _ zs => swp2 zs)
  kb_count_renamings : KBn K A.fd_count_renamings ["web"] 0 ["web"] (fun _ ws => ws) (fun _ zs => zs)
  kb_plain_text : KBn K A.fd_plain_text ["web"] 0 ["web"] (fun _ ws => ws) (fun _ zs => zs)
def dWeb (C : Addr) (p : List Nat) (ts : List Str) : D := .ins C [("places", .str (toS p)), ("ties", .tup (ts.map D.str))]
def dLot (lot : List Nat) : D := dI (lot.map Int.ofNat)
structure OkWeb (p : List Nat) (ts : List Str) : Prop where
  few : p.length ≤ 8
  many : ts.length ≤ 11
  ties : ∀ y ∈ ts, y.cps.size = 2 ∧ (ends y).1 ∈ p ∧ (ends y).2 ∈ p
def tiesOf (ts : List Str) (lot : List Nat) : List (Nat × Nat) := lot.map fun i => ends (ts.getD i Str.empty)
section
variable {P : Program} {w : World} {K : PySem.W.Frag} {mg : Str → Option Value} {base : Heap} {A : Ad}
theorem atK_nat {ds : List D} {j : Nat} {d : D} {R : D → Prop} (h : ds[j]? = some d) (r : R d) : atK ds (j : Int) R := by
  unfold atK
  rw [atI_nat h]
  exact r
theorem lot_at {lot : List Nat} {i : Nat} {x : D} (h : ((lot.map Int.ofNat).map D.int)[i]? = some x) : ∃ k, lot[i]? = some k ∧ x = .int (k : Nat) := by
  rw [List.getElem?_map, List.getElem?_map] at h
  cases e : lot[i]? with
  | none => rw [e] at h; cases h
  | some k =>
    rw [e] at h
    exact ⟨k, rfl, (Option.some.inj h).symm⟩
theorem two_signs {y : Str} (h : y.cps.size = 2) : ∃ a b, y.cps[0]? = some a ∧ y.cps[1]? = some b ∧ ends y = (a, b) := by
  obtain ⟨l⟩ := y
  obtain ⟨l⟩ := l
  match l, h with
  | [a, b], _ => exact ⟨a, b, rfl, rfl, rfl⟩
theorem occ_first' {p : List Nat} {c : Nat} (h : c ∈ p) : Builtin.Str.occurrences (toS p) ⟨#[c]⟩ 0 (toS p).length 1 = p.idxOf c :: [] := by
  have := occ_first (z := toS p) (c := c) (by rw [toS_list]; exact h)
  rw [toS_list] at this
  exact this
def g_marks (C : Addr) : GC := fun ds μ R => ∃ (p : List Nat) (ts : List Str) (lot : List Nat), ds = [dWeb C p ts, dLot lot] ∧ OkWeb p ts ∧ (∀ i ∈ lot, i < ts.length) ∧ R (.str (toS (marksL p (tiesOf ts lot)))) μ
def N24 : List Str := ["web", "lot", "row", "index", "tie", "one", "other"]
theorem sc24 : FnScope N24 ["web", "lot"] (defScope (top 24)) := ⟨rfl, rfl, rfl, by decide +kernel, rfl, by decide +kernel, by decide +kernel⟩
theorem ok_marks (T : Tx K mg A) : FnOk P w K mg base CX0 1 A.marks A.fd_marks ["web", "lot"] (toSp K (g_marks A.Web)) := by
  refine okD T.F_marks sc24 (fun ds μ R h => ?_) ⟨_, fun cdv A0 outer s H E hr =>
    (dss_cons (ds_set sc24.nd (i := 2) rfl (by first | exact Or.inl rfl | exact Or.inr rfl) (de_fld T.k_Web T.n_places (dv 0)))
      (dss_cons (ds_for PassesOwn.never rfl (di_both (dv 1)) (pg_name (i := 3) sc24.nd rfl (by first | exact Or.inl rfl | exact Or.inr rfl)) (sim_nm (i := 3))
      (dss_cons (ds_set sc24.nd (i := 4) rfl (by first | exact Or.inl rfl | exact Or.inr rfl) (de_ix ix_any sim_ix (de_fld T.k_Web T.n_ties (dv 0)) (dv 3) (fun _ _ => rfl)))
      ⟨_, pss_swap (ir := 2) (iw := 0) (it := 4) (io := 5) (iu := 6) T.k_Web T.n_places (by rfl) sc24.nd rfl rfl rfl rfl rfl rfl rfl rfl rfl rfl (by decide) (by decide) (by decide) (by decide) (by decide) (by rfl) (by rfl) T.z_max T.z_min, sim_swap⟩))
      (dss_one (ds_ret (dv 2))))), fun ds μ R h => ?_⟩
  · obtain ⟨p, ts, lot, rfl, _⟩ := h
    rfl
  · obtain ⟨p, ts, lot, rfl, ok, hl, h⟩ := h
    refine ⟨rfl, _, rfl, ?_⟩
    refine ⟨fun i δ' μ' => μ' = μ ∧ ∃ o3 o4 o5 o6, δ' = [some (dWeb A.Web p ts), some (dLot lot), some (.str (toS (marksL p (tiesOf ts (lot.take i))))), o3, o4, o5, o6], ⟨rfl, none, none, none, none, rfl⟩, ?_, ?_⟩
    · rintro i x δ' μ' hx ⟨rfl, o3, o4, o5, o6, rfl⟩
      obtain ⟨k, hk, rfl⟩ := lot_at hx
      have hm : k ∈ lot := List.mem_of_getElem? hk
      have hkt := hl k hm
      obtain ⟨y, hy⟩ : ∃ y, ts[k]? = some y := ⟨ts[k], by simp [hkt]⟩
      have hym : y ∈ ts := List.mem_of_getElem? hy
      obtain ⟨sy, m1, m2⟩ := ok.ties y hym
      have hge : ts.getD k Str.empty = y := by rw [List.getD_eq_getElem?_getD, hy]; rfl
      refine ⟨rfl, _, rfl, ?_⟩
      refine atK_nat (d := .str y) (by rw [List.getElem?_map, hy]; rfl) ?_
      have er : marksL p (tiesOf ts (lot.take (i + 1))) = stepM p (marksL p (tiesOf ts (lot.take i))) (ends y) := by
        unfold marksL tiesOf
        rw [take_succ_get hk, List.map_append, List.foldl_append]
        show stepM p _ (ends (ts.getD k Str.empty)) = _
        rw [hge]
      have hlen : (marksL p (tiesOf ts (lot.take i))).length = p.length := foldl_len p _ p
      generalize marksL p (tiesOf ts (lot.take i)) = r at er hlen
      obtain ⟨c0, c1, e0, e1, ee⟩ := two_signs sy
      have i0 : p.idxOf c0 < p.length := List.idxOf_lt_length_of_mem (by rw [ee] at m1; exact m1)
      have i1 : p.idxOf c1 < p.length := List.idxOf_lt_length_of_mem (by rw [ee] at m2; exact m2)
      have few := ok.few
      refine ⟨toS r, toS p, y, c0, c1, r.getD (p.idxOf c0) 0, r.getD (p.idxOf c1) 0, p.idxOf c0, p.idxOf c1, [], [], _, rfl, rfl, rfl, rfl, e0, e1, ?_, ?_, ?_, ?_, ?_, ?_⟩
      · exact occ_first' (by rw [ee] at m1; exact m1)
      · exact occ_first' (by rw [ee] at m2; exact m2)
      · show r.toArray.size < 1000
        rw [List.size_toArray]
        omega
      · show r.toArray[p.idxOf c0]? = _
        rw [List.getElem?_toArray, List.getD_eq_getElem?_getD, List.getElem?_eq_getElem (by omega)]
        rfl
      · show r.toArray[p.idxOf c1]? = _
        rw [List.getElem?_toArray, List.getD_eq_getElem?_getD, List.getElem?_eq_getElem (by omega)]
        rfl
      · refine ⟨rfl, some (.int (k : Nat)), some (.str y), some (.str ⟨#[r.getD (p.idxOf c0) 0]⟩), some (.str ⟨#[r.getD (p.idxOf c1) 0]⟩), ?_⟩
        show [some (dWeb A.Web p ts), some (dLot lot), some (D.str (swapped (toS r) (r.getD (p.idxOf c0) 0) (r.getD (p.idxOf c1) 0))), some (.int (k : Nat)), some (.str y), some (.str ⟨#[r.getD (p.idxOf c0) 0]⟩), some (.str ⟨#[r.getD (p.idxOf c1) 0]⟩)] = _
        rw [swapped_step (p := p) (y := ends y) (by rw [ee]) (by rw [ee]), er]
    · rintro δ' μ' ⟨rfl, o3, o4, o5, o6, rfl⟩
      have e : lot.take ((lot.map Int.ofNat).map D.int).length = lot := List.take_of_length_le (by simp)
      show R (.str (toS (marksL p (tiesOf ts (lot.take ((lot.map Int.ofNat).map D.int).length))))) μ'
      rw [e]
      exact h
def g_lot_of_all (C : Addr) : GC := fun ds μ R => ∃ (p : List Nat) (ts : List Str), ds = [dWeb C p ts] ∧ OkWeb p ts ∧ R (dLot (List.range ts.length)) μ
theorem upTo_lot (n : Nat) : D.tup (DL.upTo n) = dLot (List.range n) := by
  unfold DL.upTo dLot dI
  rw [List.map_map]
  rfl
def N35 : List Str := ["web"]
theorem sc35 : FnScope N35 ["web"] (defScope (top 35)) := ⟨rfl, rfl, rfl, by decide +kernel, rfl, by decide +kernel, by decide +kernel⟩
theorem ok_lot_of_all (T : Tx K mg A) : FnOk P w K mg base CX0 1 A.lot_of_all A.fd_lot_of_all ["web"] (toSp K (g_lot_of_all A.Web)) := by
  refine okD T.F_lot_of_all sc35 (fun ds μ R h => ?_) ⟨_, fun cdv A0 outer s H E hr =>
    (dss_one (ds_ret (de_tupRg (by rfl) (by rfl) T.z_tuple (by rfl) T.z_range (de_callB cr_len sim_len (by rfl) T.z_len boot_len (da_cons (de_fld T.k_Web T.n_ties (dv 0)) da_nil))))), fun ds μ R h => ?_⟩
  · obtain ⟨p, ts, rfl, _⟩ := h
    rfl
  · obtain ⟨p, ts, rfl, ok, h⟩ := h
    refine ⟨rfl, _, rfl, ?_⟩
    refine ⟨ts.length, by simp, by have := ok.many; omega, ?_⟩
    rw [upTo_lot]
    exact h
def rankOf (p : List Nat) (ts : List Str) (lot : List Nat) : Nat := ((List.zip (marksL p (tiesOf ts lot)) p).filter fun q => decide (q.1 ≠ q.2)).length
def g_rank_of (C : Addr) : GC := fun ds μ R => ∃ (p : List Nat) (ts : List Str) (lot : List Nat), ds = [dWeb C p ts, dLot lot] ∧ OkWeb p ts ∧ (∀ i ∈ lot, i < ts.length) ∧ R (.int (rankOf p ts lot : Nat)) μ
theorem pairs_len {x y : Str} : (pairsS x y).length = min x.cps.toList.length y.cps.toList.length := by
  unfold pairsS
  rw [List.length_zipWith]
theorem pairs_mem {x y : Str} {d : D} (h : d ∈ pairsS x y) : ∃ a b, d = .tup [.str ⟨#[a]⟩, .str ⟨#[b]⟩] := by
  unfold pairsS at h
  generalize x.cps.toList = l at h
  generalize y.cps.toList = m at h
  induction l generalizing m with
  | nil => cases h
  | cons a l ih =>
    cases m with
    | nil => cases h
    | cons b m =>
      rw [List.zipWith_cons_cons] at h
      rcases List.mem_cons.mp h with e | h
      · exact ⟨a, b, e⟩
      · exact ih m h
def unlike : D → Bool
  | .tup [.str a, .str b] => decide (a ≠ b)
  | _ => false
def head1 : D → D
  | .tup (d :: _) => d
  | d => d
theorem pairs_unlike {l p : List Nat} : ((pairsS (toS l) (toS p)).filter unlike).length = ((List.zip l p).filter fun q => decide (q.1 ≠ q.2)).length := by
  unfold pairsS
  rw [toS_list, toS_list]
  induction l generalizing p with
  | nil => rfl
  | cons a l ih =>
    cases p with
    | nil => rfl
    | cons b p =>
      rw [List.zipWith_cons_cons, List.zip_cons_cons]
      by_cases e : a = b
      · subst e
        rw [List.filter_cons_of_neg (by simp [unlike]), List.filter_cons_of_neg (by simp)]
        exact ih
      · rw [List.filter_cons_of_pos (by simp [unlike, e]), List.filter_cons_of_pos (by simp [e]), List.length_cons, List.length_cons, ih]
def N39 : List Str := ["web", "lot", "mark", "place"]
theorem sc39 : FnScope N39 ["web", "lot"] (defScope (top 39)) := ⟨rfl, rfl, rfl, by decide +kernel, rfl, by decide +kernel, by decide +kernel⟩
theorem ok_rank_of (T : Tx K mg A) : FnOk P w K mg base CX0 2 A.rank_of A.fd_rank_of ["web", "lot"] (toSp K (g_rank_of A.Web)) := by
  refine okD T.F_rank_of sc39 (fun ds μ R h => ?_) ⟨_, fun cdv A0 outer s H E hr =>
    (dss_one (ds_ret (de_callB cr_len sim_len (by rfl) T.z_len boot_len (da_cons (de_lc (own := [("mark", 2), ("place", 3)]) (by rfl) sc39.nd (di_zipS (by rfl) T.z_zip (da_cons (de_call ((ok_marks T).mono (by decide)) hr (by rfl) T.g_marks T.F_marks.kp T.b_marks (da_cons (dv 0) (da_cons (dv 1) da_nil))) (da_cons (de_fld T.k_Web T.n_places (dv 0)) da_nil))) (blkOk_by (N := N39) (own := [("mark", 2), ("place", 3)]) (sc := defScope (top 39)) (by decide +kernel)) (fun _ _ _ _ _ => (pg_tup (n := 2) (by rfl) (pgs_cons (pg_name (i := 2) sc39.nd rfl (by first | exact Or.inl rfl | exact Or.inr rfl)) (pgs_cons (pg_name (i := 3) sc39.nd rfl (by first | exact Or.inl rfl | exact Or.inr rfl)) pgs_nil)))) (sim_tupT (n := 2) (sim_consT (sim_nm (i := 2)) (sim_consT (sim_nm (i := 3)) sim_nilT))) (fun _ _ _ _ _ => (dts_one (dt_cmp (op_neA hr.units) sim_ne (dv 2) (dv 3) (nomark _)))) (fun _ _ _ _ _ => (dv 2))) da_nil)))), fun ds μ R h => ?_⟩
  · obtain ⟨p, ts, lot, rfl, _⟩ := h
    rfl
  · obtain ⟨p, ts, lot, rfl, ok, hl, h⟩ := h
    refine ⟨p, ts, lot, rfl, ok, hl, ?_⟩
    refine ⟨rfl, _, rfl, ?_⟩
    show LcB _ _ _ _ _ _ _ _
    refine lcb_pure unlike head1 ?_ ?_ ?_
    · rw [pairs_len, toS_list, toS_list, sizeLine_eq]
      have := ok.few
      omega
    · intro x hx μ' N Y _ hn hy
      obtain ⟨a, b, rfl⟩ := pairs_mem hx
      refine ⟨rfl, ?_⟩
      show if (!decide ((⟨#[a]⟩ : Str) = ⟨#[b]⟩)) = true then Y (.str ⟨#[a]⟩) μ' else N μ'
      by_cases e : (⟨#[a]⟩ : Str) = ⟨#[b]⟩
      · rw [decide_eq_true e]
        exact hn (decide_eq_false fun z => z e)
      · rw [decide_eq_false e]
        exact hy (decide_eq_true e)
    · show R (.int ((((pairsS (toS (marksL p (tiesOf ts lot))) (toS p)).filter unlike).map head1).length : Nat)) μ
      rw [List.length_map, pairs_unlike]
      exact h
def g_spare_of (C : Addr) : GC := fun ds μ R => ∃ (p : List Nat) (ts : List Str) (lot : List Nat), ds = [dWeb C p ts, dLot lot] ∧ OkWeb p ts ∧ (∀ i ∈ lot, i < ts.length) ∧ R (.int ((lot.length : Int) - (rankOf p ts lot : Nat))) μ
def g_full_rank (C : Addr) : GC := fun ds μ R => ∃ (p : List Nat) (ts : List Str), ds = [dWeb C p ts] ∧ OkWeb p ts ∧ R (.int (rankOf p ts (List.range ts.length) : Nat)) μ
def N40 : List Str := ["web", "lot"]
theorem sc40 : FnScope N40 ["web", "lot"] (defScope (top 40)) := ⟨rfl, rfl, rfl, by decide +kernel, rfl, by decide +kernel, by decide +kernel⟩
theorem ok_spare_of (T : Tx K mg A) : FnOk P w K mg base CX0 3 A.spare_of A.fd_spare_of ["web", "lot"] (toSp K (g_spare_of A.Web)) := by
  refine okD T.F_spare_of sc40 (fun ds μ R h => ?_) ⟨_, fun cdv A0 outer s H E hr =>
    (dss_one (ds_ret (de_op op_sub sim_minus (de_callB cr_len sim_len (by rfl) T.z_len boot_len (da_cons (dv 1) da_nil)) (de_call ((ok_rank_of T).mono (by decide)) hr (by rfl) T.g_rank_of T.F_rank_of.kp T.b_rank_of (da_cons (dv 0) (da_cons (dv 1) da_nil)))))), fun ds μ R h => ?_⟩
  · obtain ⟨p, ts, lot, rfl, _⟩ := h
    rfl
  · obtain ⟨p, ts, lot, rfl, ok, hl, h⟩ := h
    refine ⟨p, ts, lot, rfl, ok, hl, ?_⟩
    show R (.int ((((lot.map Int.ofNat).map D.int).length : Int) - (rankOf p ts lot : Nat))) μ
    rw [List.length_map, List.length_map]
    exact h
def N41 : List Str := ["web"]
theorem sc41 : FnScope N41 ["web"] (defScope (top 41)) := ⟨rfl, rfl, rfl, by decide +kernel, rfl, by decide +kernel, by decide +kernel⟩
theorem ok_full_rank (T : Tx K mg A) : FnOk P w K mg base CX0 3 A.full_rank A.fd_full_rank ["web"] (toSp K (g_full_rank A.Web)) := by
  refine okD T.F_full_rank sc41 (fun ds μ R h => ?_) ⟨_, fun cdv A0 outer s H E hr =>
    (dss_one (ds_ret (de_call ((ok_rank_of T).mono (by decide)) hr (by rfl) T.g_rank_of T.F_rank_of.kp T.b_rank_of (da_cons (dv 0) (da_cons (de_call ((ok_lot_of_all T).mono (by decide)) hr (by rfl) T.g_lot_of_all T.F_lot_of_all.kp T.b_lot_of_all (da_cons (dv 0) da_nil)) da_nil))))), fun ds μ R h => ?_⟩
  · obtain ⟨p, ts, rfl, _⟩ := h
    rfl
  · obtain ⟨p, ts, rfl, ok, h⟩ := h
    exact ⟨p, ts, rfl, ok, p, ts, List.range ts.length, rfl, ok, fun i hi => List.mem_range.mp hi, h⟩
theorem perm_map {α β : Type} {f : α → β} {L : List α} {out : List β} (h : out.Perm (L.map f)) : ∃ L' : List α, L'.Perm L ∧ out = L'.map f := by
  generalize e : L.map f = M at h
  induction h generalizing L with
  | nil =>
    have : L = [] := by simpa using e
    subst this
    exact ⟨[], .refl _, rfl⟩
  | cons x p ih =>
    obtain ⟨a, l, rfl, rfl, e2⟩ := List.map_eq_cons_iff.mp e
    obtain ⟨L', p', rfl⟩ := ih e2
    exact ⟨a :: L', p'.cons a, rfl⟩
  | swap x y l =>
    obtain ⟨a, l', rfl, rfl, e2⟩ := List.map_eq_cons_iff.mp e
    obtain ⟨b, l'', rfl, rfl, e3⟩ := List.map_eq_cons_iff.mp e2
    subst e3
    exact ⟨b :: a :: l'', List.Perm.swap _ _ _, rfl⟩
  | trans p q ih1 ih2 =>
    obtain ⟨L2, p2, e2⟩ := ih2 e
    obtain ⟨L1, p1, e1⟩ := ih1 e2.symm
    exact ⟨L1, p1.trans p2, e1⟩
/-- the woods among the first ties -/
def woodsStep (p : List Nat) (ts : List Str) (ws : List (List Nat)) (i : Nat) : List (List Nat) := ws ++ (ws.map (· ++ [i])).filter fun u => decide ((u.length : Int) - (rankOf p ts u : Nat) = 0)
def woodsL (p : List Nat) (ts : List Str) (n : Nat) : List (List Nat) := (List.range n).foldl (woodsStep p ts) [[]]
theorem woods_succ (p : List Nat) (ts : List Str) (n : Nat) : woodsL p ts (n + 1) = woodsStep p ts (woodsL p ts n) n := by
  unfold woodsL
  rw [List.range_succ, List.foldl_append]
  rfl
theorem woods_few (p : List Nat) (ts : List Str) : ∀ n, (woodsL p ts n).length ≤ 2 ^ n
  | 0 => Nat.le_refl _
  | n + 1 => by
    rw [woods_succ]
    unfold woodsStep
    have ih := woods_few p ts n
    have h2 := List.length_filter_le (fun u : List Nat => decide ((u.length : Int) - (rankOf p ts u : Nat) = 0)) ((woodsL p ts n).map (· ++ [n]))
    rw [List.length_map] at h2
    rw [List.length_append, Nat.pow_succ]
    omega
theorem woods_in (p : List Nat) (ts : List Str) : ∀ n, ∀ u ∈ woodsL p ts n, (∀ i ∈ u, i < n) ∧ u.length ≤ n
  | 0, u, h => by
    have : u = [] := by simpa [woodsL] using h
    subst this
    exact ⟨fun i hi => (by cases hi), Nat.le_refl _⟩
  | n + 1, u, h => by
    rw [woods_succ] at h
    unfold woodsStep at h
    rcases List.mem_append.mp h with h | h
    · obtain ⟨h1, h2⟩ := woods_in p ts n u h
      exact ⟨fun i hi => Nat.lt_succ_of_lt (h1 i hi), Nat.le_succ_of_le h2⟩
    · obtain ⟨v, hv, e⟩ := List.mem_map.mp (List.mem_filter.mp h).1
      have e : v ++ [n] = u := e
      subst e
      obtain ⟨h1, h2⟩ := woods_in p ts n v hv
      refine ⟨fun i hi => ?_, ?_⟩
      · rcases List.mem_append.mp hi with q | q
        · exact Nat.lt_succ_of_lt (h1 i q)
        · rw [List.mem_singleton.mp q]
          exact Nat.lt_succ_self _
      · rw [List.length_append]
        exact Nat.succ_le_succ h2
def ltN (a b : List Nat) : Bool := ltI (a.map Int.ofNat) (b.map Int.ofNat)
def g_trees_of (C : Addr) : GC := fun ds μ R => ∃ (p : List Nat) (ts : List Str), ds = [dWeb C p ts] ∧ OkWeb p ts ∧
  ∀ out : List (List Nat), out.Perm ((woodsL p ts ts.length).filter fun u => decide ((u.length : Int) = (rankOf p ts (List.range ts.length) : Nat))) → out.Pairwise (fun a b => ltN b a = false) → R (.tup (out.map dLot)) μ
def lotOf : D → List Nat
  | .tup ds => ds.map fun d => match d with
    | .int i => i.toNat
    | _ => 0
  | _ => []
theorem lotOf_dLot (u : List Nat) : lotOf (dLot u) = u := by
  show ((u.map Int.ofNat).map D.int).map (fun d => match d with
    | .int i => i.toNat
    | _ => 0) = u
  induction u with
  | nil => rfl
  | cons a u ih =>
    rw [List.map_cons, List.map_cons, List.map_cons, ih]
    rfl
def addI (i : Nat) : D → D
  | .tup ds => .tup (ds ++ [.int (i : Nat)])
  | d => d
theorem addI_map (i : Nat) (ws : List (List Nat)) : (ws.map dLot).map (addI i) = (ws.map (· ++ [i])).map dLot := by
  rw [List.map_map, List.map_map]
  refine List.map_congr_left fun u _ => ?_
  show D.tup (((u.map Int.ofNat).map D.int) ++ [.int (i : Nat)]) = dLot (u ++ [i])
  unfold dLot dI
  rw [List.map_append, List.map_append]
  rfl
theorem filter_dLot (q : List Nat → Bool) (ws : List (List Nat)) : (ws.map dLot).filter (fun d => q (lotOf d)) = (ws.filter q).map dLot := by
  rw [List.filter_map]
  congr 1
  refine List.filter_congr fun u _ => ?_
  show q (lotOf (dLot u)) = q u
  rw [lotOf_dLot]
theorem range_at {n i : Nat} {x : D} (h : ((List.range n).map fun i => D.int (i : Nat))[i]? = some x) : i < n ∧ x = .int (i : Nat) := by
  rw [List.getElem?_map] at h
  by_cases hi : i < n
  · rw [List.getElem?_range hi] at h
    exact ⟨hi, (Option.some.inj h).symm⟩
  · rw [List.getElem?_eq_none (by simp; omega)] at h
    cases h
theorem pow_few {i : Nat} (h : i ≤ 11) : 2 ^ i ≤ 2048 := Nat.pow_le_pow_right (by omega) h
def N46 : List Str := ["web", "woods", "index", "longer", "size", "wood"]
theorem sc46 : FnScope N46 ["web"] (defScope (top 46)) := ⟨rfl, rfl, rfl, by decide +kernel, rfl, by decide +kernel, by decide +kernel⟩
theorem ok_trees_of (T : Tx K mg A) : FnOk P w K mg base CX0 4 A.trees_of A.fd_trees_of ["web"] (toSp K (g_trees_of A.Web)) := by
  refine okD T.F_trees_of sc46 (fun ds μ R h => ?_) ⟨_, fun cdv A0 outer s H E hr =>
    (dss_cons (ds_set sc46.nd (i := 1) rfl (by first | exact Or.inl rfl | exact Or.inr rfl) (de_lst (da_cons (de_tup da_nil) da_nil)))
      (dss_cons (ds_for PassesOwn.never rfl (di_range (by rfl) T.z_range (da_cons (de_callB cr_len sim_len (by rfl) T.z_len boot_len (da_cons (de_fld T.k_Web T.n_ties (dv 0)) da_nil)) da_nil)) (pg_name (i := 2) sc46.nd rfl (by first | exact Or.inl rfl | exact Or.inr rfl)) (sim_nm (i := 2))
      (dss_cons (ds_setLc (i := 3) (own := [("wood", 5)]) (by rfl) sc46.nd rfl rfl (sw_true rfl rfl rfl (by decide +kernel)) (di_both (dv 1)) (blkOk_by (N := N46) (own := [("wood", 5)]) (sc := defScope (top 46)) (by decide +kernel)) (fun _ _ _ _ _ => (pg_name (i := 5) sc46.nd rfl (by first | exact Or.inl rfl | exact Or.inr rfl))) (sim_nm (i := 5)) (fun _ _ _ _ _ => dts_nil) (fun _ _ _ _ _ => (de_op op_plus sim_plus (dv 5) (de_tup (da_cons (dv 2) da_nil)))))
      (dss_one (ds_set sc46.nd (i := 1) rfl (by first | exact Or.inl rfl | exact Or.inr rfl) (de_op op_plus sim_plus (dv 1) (de_lc (own := [("wood", 5)]) (by rfl) sc46.nd (di_both (dv 3)) (blkOk_by (N := N46) (own := [("wood", 5)]) (sc := defScope (top 46)) (by decide +kernel)) (fun _ _ _ _ _ => (pg_name (i := 5) sc46.nd rfl (by first | exact Or.inl rfl | exact Or.inr rfl))) (sim_nm (i := 5)) (fun _ _ _ _ _ => (dts_one (dt_cmp (op_eqA hr.units) sim_eq (de_call ((ok_spare_of T).mono (by decide)) hr (by rfl) T.g_spare_of T.F_spare_of.kp T.b_spare_of (da_cons (dv 0) (da_cons (dv 5) da_nil))) de_int (nomark _)))) (fun _ _ _ _ _ => (dv 5))))))))
      (dss_cons (ds_set sc46.nd (i := 4) rfl (by first | exact Or.inl rfl | exact Or.inr rfl) (de_call ((ok_full_rank T).mono (by decide)) hr (by rfl) T.g_full_rank T.F_full_rank.kp T.b_full_rank (da_cons (dv 0) da_nil)))
      (dss_one (ds_ret (de_callTy call_tuple_of sim_tuple (by rfl) T.z_tuple boot_tuple (da_cons (de_callB (cr_sortI hr.units) sim_sortI (by rfl) T.z_sorted boot_sorted (da_cons (de_lc (own := [("wood", 5)]) (by rfl) sc46.nd (di_both (dv 1)) (blkOk_by (N := N46) (own := [("wood", 5)]) (sc := defScope (top 46)) (by decide +kernel)) (fun _ _ _ _ _ => (pg_name (i := 5) sc46.nd rfl (by first | exact Or.inl rfl | exact Or.inr rfl))) (sim_nm (i := 5)) (fun _ _ _ _ _ => (dts_one (dt_cmp (op_eqA hr.units) sim_eq (de_callB cr_len sim_len (by rfl) T.z_len boot_len (da_cons (dv 5) da_nil)) (dv 4) (nomark _)))) (fun _ _ _ _ _ => (dv 5))) da_nil)) da_nil))))))), fun ds μ R h => ?_⟩
  · obtain ⟨p, ts, rfl, _⟩ := h
    rfl
  · obtain ⟨p, ts, rfl, ok, h⟩ := h
    have many := ok.many
    refine ⟨by show 0 ≤ sizeLine; decide, by show 1 ≤ sizeLine; decide, ?_⟩
    refine ⟨rfl, _, rfl, ⟨by rw [List.length_map]; omega, by rw [List.length_map]; omega⟩, ?_⟩
    refine ⟨fun i δ' μ' => μ' = μ ∧ ∃ o2 o3 o4 o5, δ' = [some (dWeb A.Web p ts), some (.lst ((woodsL p ts i).map dLot)), o2, o3, o4, o5], ⟨rfl, none, none, none, none, rfl⟩, ?_, ?_⟩
    · rintro i x δ' μ' hx ⟨rfl, o2, o3, o4, o5, rfl⟩
      obtain ⟨hi, rfl⟩ := range_at hx
      have hi : i < ts.length := by simpa using hi
      have few : (woodsL p ts i).length ≤ 2048 := Nat.le_trans (woods_few p ts i) (pow_few (by omega))
      show LcB _ _ _ _ _ _ _ _
      refine lcb_map (addI i) ?_ ?_ ?_
      · rw [List.length_map, sizeLine_eq]
        omega
      · intro x hx μ2 Y _ hy
        obtain ⟨u, hu, rfl⟩ := List.mem_map.mp hx
        obtain ⟨u1, u2⟩ := woods_in p ts i u hu
        refine ⟨by show 1 ≤ sizeLine; decide, ?_, hy⟩
        show ((u.map Int.ofNat).map D.int).length + 1 ≤ sizeLine
        rw [List.length_map, List.length_map, sizeLine_eq]
        omega
      · rw [addI_map]
        show LcB _ _ _ _ _ _ _ _
        refine lcb_pure (fun d => decide (((lotOf d).length : Int) - (rankOf p ts (lotOf d) : Nat) = 0)) id ?_ ?_ ?_
        · rw [List.length_map, List.length_map, sizeLine_eq]
          omega
        · intro x hx μ2 N Y _ hn hy
          obtain ⟨u, hu, rfl⟩ := List.mem_map.mp hx
          obtain ⟨v, hv, rfl⟩ := List.mem_map.mp hu
          obtain ⟨v1, v2⟩ := woods_in p ts i v hv
          refine ⟨p, ts, v ++ [i], rfl, ok, fun j hj => ?_, ?_⟩
          · rcases List.mem_append.mp hj with q | q
            · have := v1 j q
              omega
            · rw [List.mem_singleton.mp q]
              exact hi
          · rw [lotOf_dLot] at hn hy
            show if decide (((v ++ [i]).length : Int) - (rankOf p ts (v ++ [i]) : Nat) = 0) = true then Y (dLot (v ++ [i])) μ2 else N μ2
            by_cases e : ((v ++ [i]).length : Int) - (rankOf p ts (v ++ [i]) : Nat) = 0
            · rw [if_pos (decide_eq_true e)]
              exact hy (decide_eq_true e)
            · rw [if_neg (by simp only [decide_eq_true_eq]; exact e)]
              exact hn (decide_eq_false e)
        · rw [List.map_id, filter_dLot (fun u => decide ((u.length : Int) - (rankOf p ts u : Nat) = 0))]
          refine ⟨?_, rfl, some (.int (i : Nat)), some (.lst (((woodsL p ts i).map (· ++ [i])).map dLot)), o4, o5, ?_⟩
          · have h2 := List.length_filter_le (fun u : List Nat => decide ((u.length : Int) - (rankOf p ts u : Nat) = 0)) ((woodsL p ts i).map (· ++ [i]))
            rw [List.length_map] at h2
            rw [List.length_map, List.length_map, sizeLine_eq]
            omega
          · rw [woods_succ]
            unfold woodsStep
            rw [List.map_append]
            rfl
    · rintro δ' μ' ⟨rfl, o2, o3, o4, o5, rfl⟩
      have en : (List.map (fun i => D.int (i : Nat)) (List.range ((ts.map D.str).length : Int).toNat)).length = ts.length := by simp
      rw [en]
      have few : (woodsL p ts ts.length).length ≤ 2048 := Nat.le_trans (woods_few p ts ts.length) (pow_few many)
      refine ⟨p, ts, rfl, ok, ?_⟩
      show LcB _ _ _ _ _ _ _ _
      refine lcb_pure (fun d => decide (((lotOf d).length : Int) = (rankOf p ts (List.range ts.length) : Nat))) id ?_ ?_ ?_
      · rw [List.length_map, sizeLine_eq]
        omega
      · intro x hx μ2 N Y _ hn hy
        obtain ⟨u, hu, rfl⟩ := List.mem_map.mp hx
        rw [lotOf_dLot] at hn hy
        show if decide ((((u.map Int.ofNat).map D.int).length : Int) = (rankOf p ts (List.range ts.length) : Nat)) = true then Y (dLot u) μ2 else N μ2
        rw [List.length_map, List.length_map]
        by_cases e : (u.length : Int) = (rankOf p ts (List.range ts.length) : Nat)
        · rw [if_pos (decide_eq_true e)]
          exact hy (decide_eq_true e)
        · rw [if_neg (by simp only [decide_eq_true_eq]; exact e)]
          exact hn (decide_eq_false e)
      · rw [List.map_id, filter_dLot (fun u => decide ((u.length : Int) = (rankOf p ts (List.range ts.length) : Nat)))]
        have same : ∀ u ∈ (woodsL p ts ts.length).filter (fun u => decide ((u.length : Int) = (rankOf p ts (List.range ts.length) : Nat))), u.length = rankOf p ts (List.range ts.length) := fun u hu => by
          have := of_decide_eq_true (List.mem_filter.mp hu).2
          omega
        generalize (woodsL p ts ts.length).filter (fun u => decide ((u.length : Int) = (rankOf p ts (List.range ts.length) : Nat))) = L at h same
        generalize rankOf p ts (List.range ts.length) = k at same
        refine ⟨L.map (fun u => u.map Int.ofNat), by rw [List.map_map]; rfl, ?_, fun out hp hw => ?_⟩
        · by_cases hk : k = 0
          · cases L with
            | nil => exact .inl fun ns hns => by cases hns
            | cons u L =>
              have : u = [] := List.eq_nil_of_length_eq_zero ((same u List.mem_cons_self).trans hk)
              subst this
              exact .inr rfl
          · refine .inl fun ns hns e => ?_
            obtain ⟨u, hu, rfl⟩ := List.mem_map.mp hns
            have := same u hu
            have z : u = [] := List.map_eq_nil_iff.mp e
            subst z
            exact hk this.symm
        · obtain ⟨L', p', rfl⟩ := perm_map hp
          have hw' : L'.Pairwise (fun a b => ltN b a = false) := List.pairwise_map.mp hw
          have := h L' p' hw'
          show R (.tup ((L'.map (fun u => u.map Int.ofNat)).map dI)) μ'
          rw [List.map_map]
          exact this
def g_check_web (C : Addr) : GC := fun ds μ R => ∃ (p : List Nat) (ts : List Str), ds = [dWeb C p ts] ∧ R .non μ
/-- all trees, ascending, in whatever way that is reached -/
def IsTrees (p : List Nat) (ts : List Str) (out : List (List Nat)) : Prop := out.Perm ((woodsL p ts ts.length).filter fun u => decide ((u.length : Int) = (rankOf p ts (List.range ts.length) : Nat))) ∧ out.Pairwise (fun a b => ltN b a = false)
def g_all_trees (C : Addr) : GC := fun ds μ R => ∃ (p : List Nat) (ts : List Str), ds = [dWeb C p ts] ∧ OkWeb p ts ∧ ∀ out, IsTrees p ts out → R (.tup (out.map dLot)) μ
def N22 : List Str := ["web"]
theorem sc22 : FnScope N22 ["web"] (defScope (top 22)) := ⟨rfl, rfl, rfl, by decide +kernel, rfl, by decide +kernel, by decide +kernel⟩
theorem ok_check_web (T : Tx K mg A) : FnOk P w K mg base CX0 1 A.check_web A.fd_check_web ["web"] (toSp K (g_check_web A.Web)) := by
  refine okD T.F_check_web sc22 (fun ds μ R h => ?_) ⟨_, fun cdv A0 outer s H E hr =>
    (dss_one (ds_if (dt_not (dt_val (de_isc T.i_Web (by rfl) T.z_isinstance (by rfl) T.g_Web (dv 0)))) (dss_one ds_never) dss_nil)), fun ds μ R h => ?_⟩
  · obtain ⟨p, ts, rfl, _⟩ := h
    rfl
  · obtain ⟨p, ts, rfl, h⟩ := h
    exact ⟨rfl, h⟩
def N47 : List Str := ["web"]
theorem sc47 : FnScope N47 ["web"] (defScope (top 47)) := ⟨rfl, rfl, rfl, by decide +kernel, rfl, by decide +kernel, by decide +kernel⟩
theorem ok_all_trees (T : Tx K mg A) : FnOk P w K mg base CX0 5 A.all_trees A.fd_all_trees ["web"] (toSp K (g_all_trees A.Web)) := by
  refine okD T.F_all_trees sc47 (fun ds μ R h => ?_) ⟨_, fun cdv A0 outer s H E hr =>
    (dss_cons (ds_expr (de_call ((ok_check_web T).mono (by decide)) hr (by rfl) T.g_check_web T.F_check_web.kp T.b_check_web (da_cons (dv 0) da_nil)))
      (dss_one (ds_ret (de_call ((ok_trees_of T).mono (by decide)) hr (by rfl) T.g_trees_of T.F_trees_of.kp T.b_trees_of (da_cons (dv 0) da_nil))))), fun ds μ R h => ?_⟩
  · obtain ⟨p, ts, rfl, _⟩ := h
    rfl
  · obtain ⟨p, ts, rfl, ok, h⟩ := h
    exact ⟨p, ts, rfl, p, ts, rfl, ok, fun out hp hw => h out ⟨hp, hw⟩⟩
structure AscLot (lot : List Nat) (n : Nat) : Prop where
  asc : lot.Pairwise (· < ·)
  few : ∀ i ∈ lot, i < n
theorem numbered_at {ds : List D} {i : Nat} {x : D} (h : (DL.numbered ds)[i]? = some x) : ∃ d, ds[i]? = some d ∧ x = .tup [.int (i : Nat), d] := by
  unfold DL.numbered at h
  rw [List.getElem?_mapIdx] at h
  cases e : ds[i]? with
  | none => rw [e] at h; cases h
  | some d =>
    rw [e] at h
    exact ⟨d, rfl, (Option.some.inj h).symm⟩
theorem bK_case {c : Bool} {F : Bool → Mu → Prop} {μ : Mu} (h1 : c = true → F true μ) (h2 : c = false → F false μ) : bK F (.bl c) μ := by
  cases c with
  | true => exact h1 rfl
  | false => exact h2 rfl
theorem items_lot {lot : List Nat} {x : D} (h : x ∈ (lot.map Int.ofNat).map D.int) : ∃ k, k ∈ lot ∧ x = .int (k : Nat) := by
  obtain ⟨j, hj, e⟩ := List.mem_map.mp h
  obtain ⟨k, hk, e2⟩ := List.mem_map.mp hj
  exact ⟨k, hk, by rw [← e, ← e2]; rfl⟩
def g_is_tie : GC := fun ds μ R => match ds with
  | [.str p, .str v] => ∃ a b, v = ⟨#[a, b]⟩ ∧ a ∈ p.cps.toList ∧ b ∈ p.cps.toList ∧ a ≤ b ∧ R (.bl true) μ
  | _ => False
def N14 : List Str := ["places", "value"]
theorem sc14 : FnScope N14 ["places", "value"] (defScope (top 14)) := ⟨rfl, rfl, rfl, by decide +kernel, rfl, by decide +kernel, by decide +kernel⟩
theorem ok_is_tie (T : Tx K mg A) : FnOk P w K mg base CX0 1 A.is_tie A.fd_is_tie ["places", "value"] (toSp K (g_is_tie)) := by
  refine okD T.F_is_tie sc14 (fun ds μ R h => ?_) ⟨_, fun cdv A0 outer s H E hr =>
    (dss_cons (ds_if (dw_or (dt_not (dt_val (de_isi (T := "str") (by rfl) T.z_isinstance (by rfl) T.z_str (by decide +kernel) (dv 1)))) (dw_or1 (dt_cmp (op_neA hr.units) sim_ne (de_callB cr_len sim_len (by rfl) T.z_len boot_len (da_cons (dv 1) da_nil)) de_int (nomark _)))).dt (dss_one (ds_ret de_bl)) dss_nil)
      (dss_one (ds_ret (de_and (de_cmp op_inA sim_in (de_ix ix_any sim_ix (dv 1) de_int (fun _ _ => rfl)) (dv 0) rfl) (de_and (de_cmp op_inA sim_in (de_ix ix_any sim_ix (dv 1) de_int (fun _ _ => rfl)) (dv 0) rfl) (de_one (de_cmp op_leA sim_ord (de_ix ix_any sim_ix (dv 1) de_int (fun _ _ => rfl)) (de_ix ix_any sim_ix (dv 1) de_int (fun _ _ => rfl)) (nomark _)))))))), fun ds μ R h => ?_⟩
  · match ds, h with
    | [.str p, .str v], h => rfl
  · match ds, h with
    | [.str p, .str v], h =>
      obtain ⟨a, b, rfl, ha, hb, hab, h⟩ := h
      refine ⟨_, true, rfl, by decide +kernel, ?_⟩
      refine ⟨(by show 2 ≤ sizeLine; decide), ?_⟩
      refine ⟨(by show 2 ≤ sizeLine; decide), a, rfl, ?_⟩
      have e1 : decide (a ∈ p.cps.toList) = true := decide_eq_true ha
      have e2 : decide (b ∈ p.cps.toList) = true := decide_eq_true hb
      rw [e1]
      refine ⟨(by show 2 ≤ sizeLine; decide), b, rfl, ?_⟩
      rw [e2]
      refine ⟨(by show 2 ≤ sizeLine; decide), (by show 2 ≤ sizeLine; decide), ?_⟩
      have e3 : (!decide (([b] : List Nat) < [a])) = true := by
        rw [decide_eq_false (fun z => by have := lt_one.mp z; omega)]
        rfl
      show R (.bl (!decide (([b] : List Nat) < [a]))) μ
      rw [e3]
      exact h
structure OkTies (p : List Nat) (ts : List Str) : Prop where
  many : ts.length ≤ 11
  ties : ∀ y ∈ ts, ∃ a b, y = ⟨#[a, b]⟩ ∧ a ∈ p ∧ b ∈ p ∧ a ≤ b
def g_first_wrong_tie : GC := fun ds μ R => ∃ (p : List Nat) (ts : List Str), ds = [.str (toS p), .tup (ts.map D.str)] ∧ OkTies p ts ∧ R .non μ
def N15 : List Str := ["places", "ties", "at", "tie"]
theorem sc15 : FnScope N15 ["places", "ties"] (defScope (top 15)) := ⟨rfl, rfl, rfl, by decide +kernel, rfl, by decide +kernel, by decide +kernel⟩
theorem ok_first_wrong_tie (T : Tx K mg A) : FnOk P w K mg base CX0 2 A.first_wrong_tie A.fd_first_wrong_tie ["places", "ties"] (toSp K (g_first_wrong_tie)) := by
  refine okD T.F_first_wrong_tie sc15 (fun ds μ R h => ?_) ⟨_, fun cdv A0 outer s H E hr =>
    (dss_cons (ds_for PassesOwn.never rfl (di_enumT (by rfl) T.z_enumerate (da_cons (dv 1) da_nil)) (pg_tup (n := 2) (by rfl) (pgs_cons (pg_name (i := 2) sc15.nd rfl (by first | exact Or.inl rfl | exact Or.inr rfl)) (pgs_cons (pg_name (i := 3) sc15.nd rfl (by first | exact Or.inl rfl | exact Or.inr rfl)) pgs_nil))) (sim_tupT (n := 2) (sim_consT (sim_nm (i := 2)) (sim_consT (sim_nm (i := 3)) sim_nilT)))
      (dss_one (ds_if (dw_or (dt_cmp op_geA sim_ord (dv 2) (de_globI (by rfl) T.c_MOST_TIES.choose_spec) (nomark _)) (dw_or1 (dt_not (dt_val (de_call ((ok_is_tie T).mono (by decide)) hr (by rfl) T.g_is_tie T.F_is_tie.kp T.b_is_tie (da_cons (dv 0) (da_cons (dv 3) da_nil))))))).dt (dss_one (ds_ret (dv 2))) dss_nil)))
      (dss_one (ds_ret de_non))), fun ds μ R h => ?_⟩
  · obtain ⟨p, ts, rfl, _⟩ := h
    rfl
  · obtain ⟨p, ts, rfl, ok, h⟩ := h
    refine ⟨fun i δ' μ' => μ' = μ ∧ ∃ o2 o3, δ' = [some (.str (toS p)), some (.tup (ts.map D.str)), o2, o3], ⟨rfl, none, none, rfl⟩, ?_, ?_⟩
    · rintro i x δ' μ' hx ⟨rfl, o2, o3, rfl⟩
      obtain ⟨d, hd, rfl⟩ := numbered_at hx
      rw [List.getElem?_map] at hd
      obtain ⟨y, hy, rfl⟩ : ∃ y, ts[i]? = some y ∧ D.str y = d := by
        cases e : ts[i]? with
        | none => rw [e] at hd; cases hd
        | some t => rw [e] at hd; exact ⟨t, rfl, Option.some.inj hd⟩
      have hi : i < ts.length := (List.getElem?_eq_some_iff.mp hy).1
      have many := ok.many
      obtain ⟨a, b, rfl, ha, hb, hab⟩ := ok.ties y (List.mem_of_getElem? hy)
      refine ⟨rfl, ?_⟩
      have hn : ¬ decide ((11 : Int) ≤ (i : Int)) = true := by
        rw [decide_eq_true_eq]
        omega
      show (if decide ((11 : Int) ≤ (i : Int)) = true then _ else _)
      rw [if_neg hn]
      refine ⟨a, b, rfl, by rw [toS_list]; exact ha, by rw [toS_list]; exact hb, hab, ?_⟩
      exact ⟨rfl, _, _, rfl⟩
    · rintro δ' μ' ⟨rfl, o2, o3, rfl⟩
      exact h
def g_check_ties : GC := g_first_wrong_tie
def N18 : List Str := ["places", "ties", "wrong"]
theorem sc18 : FnScope N18 ["places", "ties"] (defScope (top 18)) := ⟨rfl, rfl, rfl, by decide +kernel, rfl, by decide +kernel, by decide +kernel⟩
theorem ok_check_ties (T : Tx K mg A) : FnOk P w K mg base CX0 3 A.check_ties A.fd_check_ties ["places", "ties"] (toSp K (g_check_ties)) := by
  refine okD T.F_check_ties sc18 (fun ds μ R h => ?_) ⟨_, fun cdv A0 outer s H E hr =>
    (dss_cons (ds_if (dt_not (dt_val (de_isi (T := "tuple") (by rfl) T.z_isinstance (by rfl) T.z_tuple (by decide +kernel) (dv 1)))) (dss_one ds_never) dss_nil)
      (dss_cons (ds_set sc18.nd (i := 2) rfl (by first | exact Or.inl rfl | exact Or.inr rfl) (de_call ((ok_first_wrong_tie T).mono (by decide)) hr (by rfl) T.g_first_wrong_tie T.F_first_wrong_tie.kp T.b_first_wrong_tie (da_cons (dv 0) (da_cons (dv 1) da_nil))))
      (dss_one (ds_if (dt_cmp op_notN sim_notN (dv 2) de_non (nomark _)) (dss_one ds_never) dss_nil)))), fun ds μ R h => ?_⟩
  · obtain ⟨p, ts, rfl, _⟩ := h
    rfl
  · obtain ⟨p, ts, rfl, ok, h⟩ := h
    refine ⟨_, true, rfl, by decide +kernel, ?_⟩
    refine ⟨p, ts, rfl, ok, ?_⟩
    exact h
structure OkPlaces (p : List Nat) : Prop where
  one : 1 ≤ p.length
  few : p.length ≤ 7
  asc : p.Pairwise (· < ·)
  sign : ∀ c ∈ p, 97 ≤ c ∧ c ≤ 104
theorem count_none {c : Nat} : ∀ {l : List Nat}, c ∉ l → PyProof.Rows.cnt c l = 0
  | [], _ => rfl
  | n :: l, h => by
    rw [PyProof.Rows.cnt_cons, if_neg (fun e => h (by rw [e]; exact List.mem_cons_self)), count_none fun q => h (List.mem_cons_of_mem _ q)]
    rfl
theorem cnt_once {c : Nat} : ∀ {l : List Nat}, c ∈ l → l.Pairwise (· ≠ ·) → PyProof.Rows.cnt c l = 1
  | n :: l, h, p => by
    rw [List.pairwise_cons] at p
    rw [PyProof.Rows.cnt_cons]
    by_cases e : n = c
    · subst e
      rw [if_pos rfl, count_none fun q => p.1 n q rfl]
      rfl
    · rw [if_neg e, cnt_once ((List.mem_cons.mp h).resolve_left fun q => e q.symm) p.2]
      rfl
theorem count_once {p : List Nat} {c : Nat} (h : c ∈ p) (u : p.Pairwise (· ≠ ·)) : decide (Txt.count (toS p) ⟨#[c]⟩ = 1) = true := by
  rw [decide_eq_true_eq, count_cnt, toS_list]
  exact cnt_once h u
def g_are_letters : GC := fun ds μ R => ∃ p : List Nat, ds = [.str (toS p)] ∧ OkPlaces p ∧ R (.bl true) μ
def N12 : List Str := ["value", "letter"]
theorem sc12 : FnScope N12 ["value"] (defScope (top 12)) := ⟨rfl, rfl, rfl, by decide +kernel, rfl, by decide +kernel, by decide +kernel⟩
theorem ok_are_letters (T : Tx K mg A) : FnOk P w K mg base CX0 1 A.are_letters A.fd_are_letters ["value"] (toSp K (g_are_letters)) := by
  refine okD T.F_are_letters sc12 (fun ds μ R h => ?_) ⟨_, fun cdv A0 outer s H E hr =>
    (dss_cons (ds_if (dw_or (dt_not (dt_val (de_isi (T := "str") (by rfl) T.z_isinstance (by rfl) T.z_str (by decide +kernel) (dv 0)))) (dw_or1 (dt_cmp op_gtA sim_ord (de_callB cr_len sim_len (by rfl) T.z_len boot_len (da_cons (dv 0) da_nil)) (de_callB cr_len sim_len (by rfl) T.z_len boot_len (da_cons (de_globS (by rfl) T.c_LETTERS.choose_spec) da_nil)) (nomark _)))).dt (dss_one (ds_ret de_bl)) dss_nil)
      (dss_one (ds_ret (de_callB (cr_all (by rfl)) sim_all (by rfl) T.z_all boot_all (da_cons (de_lc (own := [("letter", 1)]) (by rfl) sc12.nd (di_str (dv 0)) (blkOk_by (N := N12) (own := [("letter", 1)]) (sc := defScope (top 12)) (by decide +kernel)) (fun _ _ _ _ _ => (pg_name (i := 1) sc12.nd rfl (by first | exact Or.inl rfl | exact Or.inr rfl))) (sim_nm (i := 1)) (fun _ _ _ _ _ => dts_nil) (fun _ _ _ _ _ => (de_and (de_cmp op_inA sim_in (dv 1) (de_globS (by rfl) T.c_LETTERS.choose_spec) rfl) (de_one (de_cmp (op_eqA hr.units) sim_eq (de_bm PySem.F.plainAttrs_str PySem.F.slot_str_count PySem.F.type_str_count mt_count sim_count ok_str (dv 0) (da_cons (dv 1) da_nil)) de_int (nomark _)))))) da_nil))))), fun ds μ R h => ?_⟩
  · obtain ⟨p, rfl, _⟩ := h
    rfl
  · obtain ⟨p, rfl, ok, h⟩ := h
    have few := ok.few
    refine ⟨_, true, rfl, by decide +kernel, ?_⟩
    have hz : (toS p).length = p.length := by
      show p.toArray.size = p.length
      rw [List.size_toArray]
    have hn : ¬ decide ((("abcdefgh" : Str).length : Int) < ((toS p).length : Int)) = true := by
      rw [decide_eq_true_eq, hz]
      have : ("abcdefgh" : Str).length = 8 := by decide +kernel
      rw [this]
      omega
    refine ⟨by rw [hz, sizeLine_eq]; omega, by decide +kernel, ?_⟩
    show (if decide ((("abcdefgh" : Str).length : Int) < ((toS p).length : Int)) = true then _ else _)
    rw [if_neg hn]
    show LcB _ _ _ _ _ _ _ _
    refine lcb_map (fun _ => .bl true) ?_ ?_ ?_
    · unfold DL.signs
      rw [List.length_map, toS_list, sizeLine_eq]
      omega
    · intro x hx μ2 Y _ hy
      unfold DL.signs at hx
      obtain ⟨c, hc, rfl⟩ := List.mem_map.mp hx
      rw [toS_list] at hc
      have hs := ok.sign c hc
      refine ⟨c, rfl, ?_⟩
      have e1 : decide (c ∈ ("abcdefgh" : Str).cps.toList) = true := by
        have e : ("abcdefgh" : Str).cps.toList = [97, 98, 99, 100, 101, 102, 103, 104] := by decide +kernel
        rw [e, decide_eq_true_eq]
        simp
        omega
      show (if id (decide (c ∈ ("abcdefgh" : Str).cps.toList)) = true then _ else _)
      rw [if_pos (show id (decide (c ∈ ("abcdefgh" : Str).cps.toList)) = true from e1)]
      refine ⟨True.intro, ?_⟩
      show Y (.bl (id (decide (Txt.count (toS p) ⟨#[c]⟩ = 1)))) μ2
      rw [count_once hc (ok.asc.imp fun h => Nat.ne_of_lt h)]
      exact hy
    · unfold DL.signs
      rw [List.map_map]
      refine ⟨List.replicate p.length true, ?_, ?_⟩
      · rw [toS_list, List.map_replicate]
        exact List.map_const'
      · show R (.bl ((List.replicate p.length true).all id)) μ
        have : (List.replicate p.length true).all id = true := by
          rw [List.all_eq_true]
          intro b hb
          rw [List.eq_of_mem_replicate hb]
          rfl
        rw [this]
        exact h
end
end K10
set_option Elab.async false
set_option linter.all false
set_option maxRecDepth 100000
namespace K10
open DL
/-! ### the ranks of both sides -/
/-- how many places have a mark that is not their own -/
def nonFix (r p : List Nat) : Nat := ((List.zip r p).filter fun q => decide (q.1 ≠ q.2)).length
theorem nonFix_nil (r : List Nat) : nonFix r [] = 0 := by cases r <;> rfl
theorem nonFix_cons (a b : Nat) (r p : List Nat) : nonFix (a :: r) (b :: p) = (if a ≠ b then 1 else 0) + nonFix r p := by
  unfold nonFix
  rw [List.zip_cons_cons]
  by_cases e : a = b
  · rw [List.filter_cons_of_neg (by simp [e]), if_neg (by simp [e])]
    omega
  · rw [List.filter_cons_of_pos (by simp [e]), if_pos e, List.length_cons]
    omega
theorem nonFix_self : ∀ p : List Nat, nonFix p p = 0
  | [] => rfl
  | a :: p => by rw [nonFix_cons, nonFix_self p]; simp
/-- one mark put in the place of another one -/
theorem nonFix_map (m n : Nat) : ∀ (r p : List Nat), p.Pairwise (· ≠ ·) → nonFix (r.map fun x => if x = m then n else x) p ≤ nonFix r p + (if m ∈ p then 1 else 0)
  | [], p, _ => by
    show nonFix [] p ≤ _
    unfold nonFix
    simp
  | a :: r, [], _ => by rw [nonFix_nil]; omega
  | a :: r, b :: p, u => by
    rw [List.pairwise_cons] at u
    have ih := nonFix_map m n r p u.2
    rw [List.map_cons, nonFix_cons, nonFix_cons]
    by_cases e : a = m
    · subst e
      rw [if_pos rfl]
      by_cases eb : a = b
      · subst eb
        have : ¬ a ∈ p := fun h => u.1 a h rfl
        rw [if_neg this] at ih
        rw [if_pos List.mem_cons_self]
        split <;> split <;> omega
      · rw [if_pos eb]
        have : (if a ∈ p then 1 else 0) ≤ (if a ∈ b :: p then 1 else 0) := by
          by_cases h : a ∈ p
          · rw [if_pos h, if_pos (List.mem_cons_of_mem _ h)]; omega
          · rw [if_neg h]; omega
        split <;> omega
    · rw [if_neg e]
      have : (if m ∈ p then 1 else 0) ≤ (if m ∈ b :: p then 1 else 0) := by
        by_cases h : m ∈ p
        · rw [if_pos h, if_pos (List.mem_cons_of_mem _ h)]; omega
        · rw [if_neg h]; omega
      omega
theorem nonFix_step {p : List Nat} (u : p.Pairwise (· ≠ ·)) (r : List Nat) (y : Nat × Nat) : nonFix (stepM p r y) p ≤ nonFix r p + 1 := by
  have := nonFix_map (max (r.getD (p.idxOf y.1) 0) (r.getD (p.idxOf y.2) 0)) (min (r.getD (p.idxOf y.1) 0) (r.getD (p.idxOf y.2) 0)) r p u
  unfold stepM
  have h : (if max (r.getD (p.idxOf y.1) 0) (r.getD (p.idxOf y.2) 0) ∈ p then 1 else 0) ≤ 1 := by split <;> omega
  exact Nat.le_trans this (by omega)
theorem marksL_snoc (p : List Nat) (ys : List (Nat × Nat)) (y : Nat × Nat) : marksL p (ys ++ [y]) = stepM p (marksL p ys) y := by
  unfold marksL
  rw [List.foldl_append]
  rfl
theorem nonFix_snoc {p : List Nat} (u : p.Pairwise (· ≠ ·)) (ys : List (Nat × Nat)) (y : Nat × Nat) : nonFix (marksL p (ys ++ [y])) p ≤ nonFix (marksL p ys) p + 1 := by
  rw [marksL_snoc]
  exact nonFix_step u _ _
theorem nonFix_foldl {p : List Nat} (u : p.Pairwise (· ≠ ·)) : ∀ (ys : List (Nat × Nat)) (r : List Nat), nonFix (ys.foldl (stepM p) r) p ≤ nonFix r p + ys.length
  | [], r => by simp
  | y :: ys, r => by
    have := nonFix_foldl u ys (stepM p r y)
    have h := nonFix_step u r y
    rw [List.foldl_cons, List.length_cons]
    omega
theorem nonFix_le {p : List Nat} (u : p.Pairwise (· ≠ ·)) (ys : List (Nat × Nat)) : nonFix (marksL p ys) p ≤ ys.length := by
  have := nonFix_foldl u ys p
  rw [nonFix_self] at this
  unfold marksL
  omega
/-! each mark is the mark of its own place -/
structure Roots (p r : List Nat) : Prop where
  len : r.length = p.length
  own : ∀ v ∈ r, v ∈ p ∧ r.getD (p.idxOf v) 0 = v
theorem getD_map_ne {l : List Nat} {f : Nat → Nat} {i : Nat} (h : i < l.length) : (l.map f).getD i 0 = f (l.getD i 0) := by
  rw [List.getD_eq_getElem?_getD, List.getD_eq_getElem?_getD, List.getElem?_map, List.getElem?_eq_getElem h]
  rfl
theorem getD_in {l : List Nat} {i : Nat} (h : i < l.length) : l.getD i 0 ∈ l := by
  rw [List.getD_eq_getElem?_getD, List.getElem?_eq_getElem h]
  exact List.getElem_mem h
theorem Roots.step {p r : List Nat} (h : Roots p r) {y : Nat × Nat} (h1 : y.1 ∈ p) (h2 : y.2 ∈ p) : Roots p (stepM p r y) := by
  refine ⟨by rw [stepM_len]; exact h.len, ?_⟩
  have l1 : p.idxOf y.1 < r.length := by rw [h.len]; exact List.idxOf_lt_length_of_mem h1
  have l2 : p.idxOf y.2 < r.length := by rw [h.len]; exact List.idxOf_lt_length_of_mem h2
  have m1 := getD_in l1
  have m2 := getD_in l2
  unfold stepM
  generalize r.getD (p.idxOf y.1) 0 = a at *
  generalize r.getD (p.idxOf y.2) 0 = b at *
  show ∀ v ∈ r.map (fun x => if x = max a b then min a b else x), v ∈ p ∧ (r.map (fun x => if x = max a b then min a b else x)).getD (p.idxOf v) 0 = v
  have mm : min a b ∈ r := by
    by_cases e : a ≤ b
    · rw [Nat.min_eq_left e]; exact m1
    · rw [Nat.min_eq_right (by omega)]; exact m2
  have key : ∀ v ∈ r, (v ≠ max a b ∨ a = b) → v ∈ p ∧ (r.map (fun x => if x = max a b then min a b else x)).getD (p.idxOf v) 0 = v := by
    intro v hv hne
    obtain ⟨k1, k2⟩ := h.own v hv
    refine ⟨k1, ?_⟩
    rw [getD_map_ne (by rw [h.len]; exact List.idxOf_lt_length_of_mem k1), k2]
    by_cases e : v = max a b
    · rw [if_pos e]
      have : a = b := hne.resolve_left fun z => z e
      omega
    · rw [if_neg e]
  intro v hv
  obtain ⟨x, hx, e⟩ := List.mem_map.mp hv
  by_cases ex : x = max a b
  · have e : (if x = max a b then min a b else x) = v := e
    rw [if_pos ex] at e
    subst e
    refine key _ mm ?_
    by_cases z : a = b
    · exact .inr z
    · exact .inl (by omega)
  · have e : (if x = max a b then min a b else x) = v := e
    rw [if_neg ex] at e
    subst e
    exact key _ hx (.inl ex)
theorem idx_get {p : List Nat} (u : p.Pairwise (· ≠ ·)) {i : Nat} (h : i < p.length) : p.idxOf p[i] = i := by
  have hm : p[i] ∈ p := List.getElem_mem h
  have hl := List.idxOf_lt_length_of_mem hm
  have e : p[p.idxOf p[i]] = p[i] := List.getElem_idxOf hl
  rcases Nat.lt_trichotomy (p.idxOf p[i]) i with z | z | z
  · exact absurd e (List.pairwise_iff_getElem.mp u _ _ hl h z)
  · exact z
  · exact absurd e.symm (List.pairwise_iff_getElem.mp u _ _ h hl z)
theorem Roots.start {p : List Nat} (u : p.Pairwise (· ≠ ·)) : Roots p p := by
  refine ⟨rfl, fun v hv => ⟨hv, ?_⟩⟩
  have hl := List.idxOf_lt_length_of_mem hv
  rw [List.getD_eq_getElem?_getD, List.getElem?_eq_getElem hl]
  exact List.getElem_idxOf hl
theorem Roots.foldl {p : List Nat} : ∀ (ys : List (Nat × Nat)) (r : List Nat), (∀ y ∈ ys, y.1 ∈ p ∧ y.2 ∈ p) → Roots p r → Roots p (ys.foldl (stepM p) r)
  | [], r, _, h => h
  | y :: ys, r, hy, h => by
    rw [List.foldl_cons]
    exact Roots.foldl ys _ (fun z hz => hy z (List.mem_cons_of_mem _ hz)) (h.step (hy y List.mem_cons_self).1 (hy y List.mem_cons_self).2)
theorem roots_marks {p : List Nat} (u : p.Pairwise (· ≠ ·)) {ys : List (Nat × Nat)} (hy : ∀ y ∈ ys, y.1 ∈ p ∧ y.2 ∈ p) : Roots p (marksL p ys) := Roots.foldl ys p hy (.start u)
/-! how many unlike marks -/
section
variable {κ : Type} [DecidableEq κ]
theorem nodup_le {α : Type} [DecidableEq α] : ∀ {l m : List α}, l.Nodup → (∀ x ∈ l, x ∈ m) → l.length ≤ m.length
  | [], m, _, _ => Nat.zero_le _
  | a :: l, m, u, h => by
    rw [List.nodup_cons] at u
    have ha : a ∈ m := h a List.mem_cons_self
    have := nodup_le (l := l) (m := m.erase a) u.2 fun x hx => by
      rw [List.mem_erase_of_ne (by rintro rfl; exact u.1 hx)]
      exact h x (List.mem_cons_of_mem _ hx)
    rw [List.length_erase_of_mem ha] at this
    have : 0 < m.length := List.length_pos_of_mem ha
    rw [List.length_cons]
    omega
theorem nodup_same {α : Type} [DecidableEq α] {l m : List α} (u : l.Nodup) (v : m.Nodup) (h : ∀ x, x ∈ l ↔ x ∈ m) : l.length = m.length :=
  Nat.le_antisymm (nodup_le u fun x => (h x).mp) (nodup_le v fun x => (h x).mpr)
end
/-- the places that have their own mark -/
def fixes (r p : List Nat) : List Nat := p.filter fun c => decide (r.getD (p.idxOf c) 0 = c)
theorem fix_count : ∀ (r p : List Nat), r.length = p.length → ((List.zip r p).filter fun q => decide (q.1 = q.2)).length + nonFix r p = p.length
  | [], [], _ => rfl
  | a :: r, b :: p, h => by
    have ih := fix_count r p (by simpa using h)
    rw [nonFix_cons, List.zip_cons_cons, List.length_cons]
    by_cases e : a = b
    · rw [List.filter_cons_of_pos (by simp [e]), List.length_cons, if_neg (by simp [e])]
      omega
    · rw [List.filter_cons_of_neg (by simp [e]), if_pos e]
      omega
theorem fixes_len {r p : List Nat} (u : p.Pairwise (· ≠ ·)) (h : r.length = p.length) : (fixes r p).length = ((List.zip r p).filter fun q => decide (q.1 = q.2)).length := by
  have e : ((List.zip r p).filter fun q => decide (q.1 = q.2)).map (·.2) = fixes r p := by
    have e2 : p = (List.zip r p).map (·.2) := by
      rw [List.map_snd_zip (by omega)]
    unfold fixes
    conv => rhs; rw [show List.filter (fun c => decide (r.getD (p.idxOf c) 0 = c)) p = List.filter (fun c => decide (r.getD (p.idxOf c) 0 = c)) ((List.zip r p).map (·.2)) from by rw [← e2]]
    rw [List.filter_map]
    congr 1
    refine List.filter_congr fun q hq => ?_
    obtain ⟨i, hi, e⟩ := List.getElem_of_mem hq
    rw [List.getElem_zip] at e
    subst e
    rw [List.length_zip] at hi
    show decide (r[i] = p[i]) = decide (r.getD (p.idxOf p[i]) 0 = p[i])
    rw [idx_get u (by omega), List.getD_eq_getElem?_getD, List.getElem?_eq_getElem (by omega)]
    rfl
  rw [← e, List.length_map]
/-! ### all lots, and the woods among them -/
def lotsL : Nat → List (List Nat)
  | 0 => [[]]
  | n + 1 => lotsL n ++ (lotsL n).map (· ++ [n])
theorem lots_in : ∀ (n : Nat), ∀ u ∈ lotsL n, (∀ i ∈ u, i < n) ∧ u.length ≤ n ∧ u.Pairwise (· < ·)
  | 0, u, h => by
    have : u = [] := by simpa [lotsL] using h
    subst this
    exact ⟨fun i hi => (by cases hi), Nat.le_refl _, .nil⟩
  | n + 1, u, h => by
    unfold lotsL at h
    rcases List.mem_append.mp h with h | h
    · obtain ⟨h1, h2, h3⟩ := lots_in n u h
      exact ⟨fun i hi => Nat.lt_succ_of_lt (h1 i hi), Nat.le_succ_of_le h2, h3⟩
    · obtain ⟨v, hv, e⟩ := List.mem_map.mp h
      have e : v ++ [n] = u := e
      subst e
      obtain ⟨h1, h2, h3⟩ := lots_in n v hv
      refine ⟨fun i hi => ?_, ?_, ?_⟩
      · rcases List.mem_append.mp hi with q | q
        · exact Nat.lt_succ_of_lt (h1 i q)
        · rw [List.mem_singleton.mp q]
          exact Nat.lt_succ_self _
      · rw [List.length_append]
        exact Nat.succ_le_succ h2
      · refine List.pairwise_append.mpr ⟨h3, by simp, fun a ha b hb => ?_⟩
        rw [List.mem_singleton.mp hb]
        exact h1 a ha
theorem lots_few : ∀ n, (lotsL n).length = 2 ^ n
  | 0 => rfl
  | n + 1 => by
    unfold lotsL
    rw [List.length_append, List.length_map, lots_few n, Nat.pow_succ]
    omega
/-- what goes on from woods alone tells all woods -/
theorem pruned (q : List Nat → Bool) (mono : ∀ u i, q (u ++ [i]) = true → q u = true) (q0 : q [] = true) : ∀ (n : Nat) (W : Nat → List (List Nat)), W 0 = [[]] → (∀ k, k < n → W (k + 1) = W k ++ ((W k).map (· ++ [k])).filter q) → W n = (lotsL n).filter q
  | 0, W, h0, _ => by
    rw [h0]
    show [[]] = [[]].filter q
    rw [List.filter_cons_of_pos q0]
    rfl
  | n + 1, W, h0, hs => by
    have ih := pruned q mono q0 n W h0 fun k hk => hs k (by omega)
    rw [hs n (by omega), ih]
    show _ = (lotsL n ++ (lotsL n).map (· ++ [n])).filter q
    rw [List.filter_append]
    congr 1
    rw [List.filter_map, List.filter_map, List.filter_filter]
    congr 1
    refine List.filter_congr fun u _ => ?_
    show (q (u ++ [n]) && q u) = q (u ++ [n])
    cases e : q (u ++ [n]) with
    | false => rfl
    | true => rw [mono u n e]; rfl
end K10
set_option Elab.async false
set_option linter.all false
set_option maxRecDepth 100000
namespace K10
open PySem PySem.Spec PyProof.Rows L2 DL
def sg (c : Nat) : Str := ⟨#[c]⟩
theorem sg_inj {a b : Nat} (h : sg a = sg b) : a = b := by
  have e : (sg a).cps.toList = (sg b).cps.toList := by rw [h]
  simpa [sg] using e
theorem lt_sg {a b : Nat} : ltCps (sg a).cps.toList (sg b).cps.toList = decide (a < b) := by
  rw [ltCps_eq]
  exact decide_eq_decide.mpr lt_one
theorem rising_sg : ∀ (ms : List Nat) (a : Nat), risingS (sg a) (ms.map sg) = true → (a :: ms).Pairwise (· ≤ ·)
  | [], a, _ => by simp
  | x :: ms, a, h => by
    have h : (!ltCps (sg x).cps.toList (sg a).cps.toList && risingS (sg x) (ms.map sg)) = true := h
    rw [Bool.and_eq_true, lt_sg] at h
    have ih := rising_sg ms x h.2
    have h1 : a ≤ x := by
      have := h.1
      simp at this
      exact this
    refine List.pairwise_cons.mpr ⟨fun y hy => ?_, ih⟩
    rcases List.mem_cons.mp hy with e | hy
    · rw [e]; exact h1
    · exact Nat.le_trans h1 ((List.pairwise_cons.mp ih).1 y hy)
theorem sorted_sg {ms : List Nat} (h : sortedS (ms.map sg) = true) : ms.Pairwise (· ≤ ·) := by
  cases ms with
  | nil => exact .nil
  | cons a ms => exact rising_sg ms a h
/-- what sorted leaves of signs -/
theorem sorted_signs {ys : List Str} {f : List Nat} (hp : ys.Perm (f.map sg)) (hs : sortedS ys = true) : ∃ ms : List Nat, ms.Perm f ∧ ms.Pairwise (· ≤ ·) ∧ ys = ms.map sg := by
  obtain ⟨ms, h1, rfl⟩ := perm_map hp
  exact ⟨ms, h1, sorted_sg hs, rfl⟩
theorem sorted_same {ms p : List Nat} (h : ms.Perm p) (hs : ms.Pairwise (· ≤ ·)) (hp : p.Pairwise (· < ·)) : ms = p :=
  h.eq_of_pairwise (fun _ _ _ _ a b => Nat.le_antisymm a b) hs (hp.imp fun h => Nat.le_of_lt h)
theorem join_sg (ms : List Nat) : Txt.join ("" : Str) (ms.map sg) = toS ms := by
  have e0 : ("" : Str) = ⟨#[]⟩ := by decide +kernel
  rw [e0]
  unfold Txt.join
  rw [StrLaws.glued_eq_join]
  have := join_nil_signs (toS ms)
  unfold PyProof.Rows.signs at this
  rw [toS_list] at this
  exact this
theorem sum_sg (ms : List Nat) (k : Nat) : ((ms.map sg).map (·.length)).sum + (ms.map sg).length * k = ms.length + ms.length * k := by
  have : (ms.map sg).map (·.length) = List.replicate ms.length 1 := by
    rw [List.map_map]
    exact List.map_const'
  rw [this, List.length_map]
  simp
section
variable {P : Program} {w : World} {K : PySem.W.Frag} {mg : Str → Option Value} {base : Heap} {A : Ad}
theorem ord_case {h : Int → Int → Bool} {k : List Nat → List Nat → Bool} {i j : Int} {F : Bool → Mu → Prop} {μ : Mu} (h1 : h i j = true → F true μ) (h2 : h i j = false → F false μ) : gOrd h k (.int i) (.int j) μ (bK F) := by
  show bK F (.bl (h i j)) μ
  exact bK_case h1 h2
def g_are_places : GC := g_are_letters
def N13 : List Str := ["value"]
theorem sc13 : FnScope N13 ["value"] (defScope (top 13)) := ⟨rfl, rfl, rfl, by decide +kernel, rfl, by decide +kernel, by decide +kernel⟩
theorem ok_are_places (T : Tx K mg A) : FnOk P w K mg base CX0 2 A.are_places A.fd_are_places ["value"] (toSp K (g_are_places)) := by
  refine okD T.F_are_places sc13 (fun ds μ R h => ?_) ⟨_, fun cdv A0 outer s H E hr =>
    (dss_cons (ds_if (dw_or (dt_not (dt_val (de_call ((ok_are_letters T).mono (by decide)) hr (by rfl) T.g_are_letters T.F_are_letters.kp T.b_are_letters (da_cons (dv 0) da_nil)))) (dw_or1 (dt_not (dt_chain op_leA sim_ord op_leA sim_ord de_int (de_callB cr_len sim_len (by rfl) T.z_len boot_len (da_cons (dv 0) da_nil)) (de_globI (by rfl) T.c_MOST_PLACES.choose_spec))))).dt (dss_one (ds_ret de_bl)) dss_nil)
      (dss_one (ds_ret (de_cmp (op_eqA hr.units) sim_eq (dv 0) (de_bm PySem.F.plainAttrs_str PySem.F.slot_str_join PySem.F.type_str_join mt_join sim_join ok_str de_str (da_cons (de_callB (DL.cr_sortedT (by rfl)) sim_sortedT (by rfl) T.z_sorted boot_sorted (da_cons (dv 0) da_nil)) da_nil)) (nomark _))))), fun ds μ R h => ?_⟩
  · obtain ⟨p, rfl, _⟩ := h
    rfl
  · obtain ⟨p, rfl, ok, h⟩ := h
    have hz : (toS p).length = p.length := by
      show p.toArray.size = p.length
      rw [List.size_toArray]
    have few := ok.few
    refine ⟨p, rfl, ok, ?_⟩
    have e1 : decide ((1 : Int) ≤ ((toS p).length : Int)) = true := by
      rw [decide_eq_true_eq, hz]
      have := ok.one
      omega
    have e2 : decide (((toS p).length : Int) ≤ 7) = true := by
      rw [decide_eq_true_eq, hz]
      omega
    refine ⟨by rw [hz, sizeLine_eq]; omega, ?_⟩
    refine ord_case (fun e => ?_) (fun e => ?_)
    rotate_left
    · exact absurd (e1.symm.trans e) (by decide)
    rw [if_pos rfl]
    unfold gC
    refine ord_case (fun e => ?_) (fun e => ?_)
    rotate_left
    · exact absurd (e2.symm.trans e) (by decide)
    refine ⟨True.intro, ?_⟩
    refine ⟨by show p.toArray.size ≤ sizeLine; rw [List.size_toArray, sizeLine_eq]; omega, fun ys hp hs => ?_⟩
    rw [toS_list] at hp
    obtain ⟨ms, h1, h2, rfl⟩ := sorted_signs (f := p) hp hs
    have := sorted_same h1 h2 ok.asc
    subst this
    refine ⟨_, rfl, by rw [sum_sg]; have : ("" : Str).length = 0 := (by decide +kernel); rw [this]; omega, ?_⟩
    show R (.bl (id (decide (toS ms = Txt.join ("" : Str) (ms.map sg))))) μ
    rw [join_sg, decide_eq_true rfl]
    exact h
def g_check_places : GC := fun ds μ R => ∃ p : List Nat, ds = [.str (toS p)] ∧ OkPlaces p ∧ R .non μ
def N17 : List Str := ["places"]
theorem sc17 : FnScope N17 ["places"] (defScope (top 17)) := ⟨rfl, rfl, rfl, by decide +kernel, rfl, by decide +kernel, by decide +kernel⟩
theorem ok_check_places (T : Tx K mg A) : FnOk P w K mg base CX0 3 A.check_places A.fd_check_places ["places"] (toSp K (g_check_places)) := by
  refine okD T.F_check_places sc17 (fun ds μ R h => ?_) ⟨_, fun cdv A0 outer s H E hr =>
    (dss_one (ds_if (dt_not (dt_val (de_call ((ok_are_places T).mono (by decide)) hr (by rfl) T.g_are_places T.F_are_places.kp T.b_are_places (da_cons (dv 0) da_nil)))) (dss_one ds_never) dss_nil)), fun ds μ R h => ?_⟩
  · obtain ⟨p, rfl, _⟩ := h
    rfl
  · obtain ⟨p, rfl, ok, h⟩ := h
    refine ⟨p, rfl, ok, ?_⟩
    exact h
end
end K10
set_option Elab.async false
set_option linter.all false
set_option maxRecDepth 100000
namespace K10
open PySem PySem.Spec PyProof.Rows L2 DL
section
variable {P : Program} {w : World} {K : PySem.W.Frag} {mg : Str → Option Value} {base : Heap} {A : Ad}
def N21 : List Str := ["self", "places", "ties"]
theorem sc21 : FnScope N21 ["self", "places", "ties"] (defScope (inClass (top 21) 0)) := ⟨rfl, rfl, rfl, by decide +kernel, rfl, by decide +kernel, by decide +kernel⟩
theorem put_ties {x y : D} : dPut "ties" y [(("places" : Str), x)] = [(("places" : Str), x), (("ties" : Str), y)] := by
  have h : ¬ (("places" : Str) = "ties") := by decide +kernel
  show (if ("places" : Str) = "ties" then [(("places" : Str), y)] else (("places" : Str), x) :: dPut "ties" y []) = _
  rw [if_neg h]
  rfl
def g_init (C : Addr) : GC := fun ds μ R => ∃ (a : Addr) (p : List Nat) (ts : List Str), ds = [.adr a, .str (toS p), .tup (ts.map D.str)] ∧ OkPlaces p ∧ OkTies p ts ∧ μ a = some (.ins C []) ∧ R .non (put μ a (.ins C [("places", .str (toS p)), ("ties", .tup (ts.map D.str))]))
theorem ok_Web_init (T : Tx K mg A) : FnOk P w K mg base CX0 4 A.Web_init A.fd_Web_init ["self", "places", "ties"] (toSp K (g_init A.Web)) := by
  refine okD T.F_Web_init sc21 (fun ds μ R h => ?_) ⟨_, fun cdv A0 outer s H E hr =>
    (dss_cons (ds_expr (de_call ((ok_check_places T).mono (by decide)) hr (by rfl) T.g_check_places T.F_check_places.kp T.b_check_places (da_cons (dv 1) da_nil)))
      (dss_cons (ds_expr (de_call ((ok_check_ties T).mono (by decide)) hr (by rfl) T.g_check_ties T.F_check_ties.kp T.b_check_ties (da_cons (dv 1) (da_cons (dv 2) da_nil))))
      (dss_cons (ds_fld T.k_Web T.n_places (dv 0) (dv 1))
      (dss_one (ds_fld T.k_Web T.n_ties (dv 0) (dv 2)))))), fun ds μ R h => ?_⟩
  · obtain ⟨a, p, ts, rfl, _⟩ := h
    rfl
  · obtain ⟨a, p, ts, rfl, op, ot, ha, h⟩ := h
    refine ⟨p, rfl, op, ?_⟩
    refine ⟨p, ts, rfl, ot, ?_⟩
    refine ⟨_, ha, by show 0 < 1000; decide, ?_⟩
    refine ⟨_, put_same, by show 1 < 1000; decide, ?_⟩
    show R .non (put (put μ a _) a (.ins A.Web (dPut "ties" (.tup (ts.map D.str)) [(("places" : Str), .str (toS p))])))
    rw [put_put, put_ties]
    exact h
theorem set_cell {μ : Mu} {a : Addr} {ds ds' : List D} {d : D} {R : Mu → Prop} (k : Nat) (ha : μ a = some (.lst ds)) (hk : k < ds.length) (e : ds.set k d = ds') (r : R (put μ a (.lst ds'))) : setK (.adr a) (.int (k : Nat)) d μ R := by
  subst e
  refine ⟨ds, k, ha, ?_, r⟩
  unfold ixN
  rw [if_pos (by omega), if_pos (by omega)]
  simp
theorem if_case {c : Bool} {X Y : Prop} (h1 : c = true → X) (h2 : c = false → Y) : if c = true then X else Y := by
  cases c with
  | true => exact h1 rfl
  | false => exact h2 rfl
def pot (x y z : Int) : MO := .lst [.int x, .int y, .int z]
theorem ints_at {ns : List Int} {k : Nat} (h : k < ns.length) : ∃ n, (ns.map D.int)[k]? = some (.int n) := ⟨ns[k], by rw [List.getElem?_map, List.getElem?_eq_getElem h]; rfl⟩
theorem ix_cell {μ : Mu} {a : Addr} {ds : List D} {d : D} {R : KD} (j : Nat) (ha : μ a = some (.lst ds)) (h : ds[j]? = some d) (r : R d μ) : gIx (.adr a) (.int (j : Nat)) μ R := by
  unfold gIx
  simp only [ha]
  exact atK_nat h r
theorem ix_str {μ : Mu} {p : List Nat} {c : Nat} {R : KD} {j : Nat} (hl : p.length ≤ 1000) (h : p[j]? = some c) (r : R (.str (sg c)) μ) : gIx (.str (toS p)) (.int (j : Nat)) μ R := by
  refine ⟨by show p.toArray.size ≤ sizeLine; rw [List.size_toArray, sizeLine_eq]; omega, ?_⟩
  rw [toS_list, atI_nat h]
  exact r
theorem toS_len (p : List Nat) : (toS p).length = p.length := by
  show p.toArray.size = p.length
  rw [List.size_toArray]
theorem asc_len {lot : List Nat} {n : Nat} (h : AscLot lot n) : lot.length ≤ n := by
  have u : lot.Nodup := h.asc.imp fun h => Nat.ne_of_lt h
  have := nodup_le (m := List.range n) u fun x hx => List.mem_range.mpr (h.few x hx)
  rw [List.length_range] at this
  exact this
end
end K10
set_option Elab.async false
set_option linter.all false
set_option maxRecDepth 100000
set_option Elab.async false
set_option linter.all false
set_option maxRecDepth 100000
namespace K10
open PySem PySem.Spec PyProof.Rows L2 DL
section
variable {P : Program} {w : World} {K : PySem.W.Frag} {mg : Str → Option Value} {base : Heap} {A : Ad}
/-! the heads of places as a dict -/
structure OkEnds (p : List Nat) (ts : List Str) : Prop where
  ties : ∀ y ∈ ts, y.cps.size = 2 ∧ (ends y).1 ∈ p ∧ (ends y).2 ∈ p
end
end K10
set_option Elab.async false
set_option linter.all false
set_option maxRecDepth 100000
namespace K10
open PySem PySem.Spec PyProof.Rows L2 DL
/-! ### both sides' trees are the same -/
theorem ofNat_inj : ∀ {a b : List Nat}, a.map Int.ofNat = b.map Int.ofNat → a = b
  | [], [], _ => rfl
  | [], _ :: _, h => by simp at h
  | _ :: _, [], h => by simp at h
  | x :: a, y :: b, h => by
    rw [List.map_cons, List.map_cons] at h
    injection h with h1 h2
    rw [Int.ofNat.inj h1, ofNat_inj h2]
theorem ltN_anti (a b : List Nat) (h : ltN a b = false) (h2 : ltN b a = false) : a = b := ofNat_inj (ltI_anti _ _ h h2)
theorem rank_le {p : List Nat} (u : p.Pairwise (· ≠ ·)) (ts : List Str) (lot : List Nat) : rankOf p ts lot ≤ lot.length := by
  have := nonFix_le u (tiesOf ts lot)
  have e : (tiesOf ts lot).length = lot.length := List.length_map _
  rw [e] at this
  exact this
theorem rank_snoc {p : List Nat} (u : p.Pairwise (· ≠ ·)) (ts : List Str) (lot : List Nat) (i : Nat) : rankOf p ts (lot ++ [i]) ≤ rankOf p ts lot + 1 := by
  have := nonFix_snoc u (tiesOf ts lot) (ends (ts.getD i Str.empty))
  have e : tiesOf ts (lot ++ [i]) = tiesOf ts lot ++ [ends (ts.getD i Str.empty)] := by
    unfold tiesOf
    rw [List.map_append]
    rfl
  show nonFix (marksL p (tiesOf ts (lot ++ [i]))) p ≤ _
  rw [e]
  exact this
theorem woods_all {p : List Nat} (u : p.Pairwise (· ≠ ·)) (ts : List Str) (n : Nat) : woodsL p ts n = (lotsL n).filter fun u => decide ((u.length : Int) - (rankOf p ts u : Nat) = 0) := by
  refine pruned (fun u => decide ((u.length : Int) - (rankOf p ts u : Nat) = 0)) (fun v i h => ?_) ?_ n (woodsL p ts) rfl fun k _ => woods_succ p ts k
  · have h := of_decide_eq_true h
    have h1 := rank_snoc u ts v i
    have h2 := rank_le u ts v
    rw [List.length_append, List.length_singleton] at h
    exact decide_eq_true (by omega)
  · have h2 := rank_le u ts []
    exact decide_eq_true (by simp at h2 ⊢; omega)
/-! counts of trees with a tie -/
end K10
namespace K10
open PySem PySem.Spec PyProof.Rows L2 DL
section
variable {P : Program} {w : World} {K : PySem.W.Frag} {mg : Str → Option Value} {base : Heap} {A : Ad}
theorem cell_ok {μ : Mu} {a : Addr} {ds : List D} (h : μ a = some (.lst ds)) : okCell (.adr a) μ := by
  unfold okCell
  simp only [h]
end
end K10
set_option Elab.async false
set_option linter.all false
set_option maxRecDepth 100000
namespace K10
open PySem PySem.Spec PyProof.Rows L2 DL
section
variable {P : Program} {w : World} {K : PySem.W.Frag} {mg : Str → Option Value} {base : Heap} {A : Ad}
/-- the pot at a, all else that was there as it was -/
structure Sa (μ μ1 : Mu) (a : Addr) : Prop where
  keep : ∀ c o, c ≠ a → μ c = some o → μ1 c = some o
  has : ∃ x y z, μ1 a = some (pot x y z)
/-- a new cell at b -/
structure Sc (μ μ1 : Mu) (a b : Addr) (l : List D) : Prop where
  at_ : μ1 b = some (.lst l)
  new : μ b = none
  ne : b ≠ a
section
variable {μ μ1 : Mu} {a b c : Addr} {l m : List D}
theorem Sa.draw (s : Sa μ μ1 a) (x y z : Int) : Sa μ (put μ1 a (pot x y z)) a :=
  ⟨fun c o hc e => by rw [put_ne hc]; exact s.keep c o hc e, ⟨x, y, z, put_same⟩⟩
theorem Sc.draw (s : Sc μ μ1 a b l) (x y z : Int) : Sc μ (put μ1 a (pot x y z)) a b l :=
  ⟨by rw [put_ne s.ne]; exact s.at_, s.new, s.ne⟩
theorem Sa.cell (s : Sa μ μ1 a) (n : μ b = none) (ne : b ≠ a) (o : MO) : Sa μ (put μ1 b o) a := by
  obtain ⟨x, y, z, e⟩ := s.has
  refine ⟨fun c o' hc e' => ?_, ⟨x, y, z, by rw [put_ne ne.symm]; exact e⟩⟩
  rw [put_ne (fun q => by rw [q, n] at e'; cases e')]
  exact s.keep c o' hc e'
theorem Sa.new (s : Sa μ μ1 a) (n : μ1 b = none) : μ b = none ∧ b ≠ a := by
  obtain ⟨x, y, z, e⟩ := s.has
  have ne : b ≠ a := fun q => by rw [q, e] at n; cases n
  refine ⟨?_, ne⟩
  cases h : μ b with
  | none => rfl
  | some o =>
    rw [s.keep b o ne h] at n
    cases n
theorem Sc.same (s : Sc μ μ1 a b l) : Sc μ (put μ1 b (.lst m)) a b m := ⟨put_same, s.new, s.ne⟩
theorem Sc.other (s : Sc μ μ1 a b l) {o : MO} (h : b ≠ c) : Sc μ (put μ1 c o) a b l := ⟨by rw [put_ne h]; exact s.at_, s.new, s.ne⟩
theorem Sc.apart {l' : List D} (s : Sc μ μ1 a b l) (n : μ1 c = none) : b ≠ c := fun q => by
  have := s.at_
  rw [q, n] at this
  cases this
theorem Sa.back (s : Sa μ μ1 a) {d : D} {R : KD} (h : ∀ x y z : Int, R d (put μ a (pot x y z))) : freed R d μ1 := by
  obtain ⟨x, y, z, e⟩ := s.has
  refine ⟨d, _, .less fun c o hc => ?_, h x y z⟩
  by_cases q : c = a
  · rw [q, put_same] at hc
    rw [q, e]
    exact hc
  · rw [put_ne q] at hc
    exact s.keep c o q hc
end
def gLenC : G1 := fun x μ R => ∃ a ds, x = .adr a ∧ μ a = some (.lst ds) ∧ R (.int (ds.length : Nat)) μ
theorem sim_lenC {K : PySem.W.Frag} : SimC K (rLenA K) (g1 gLenC) := fun vs ds H μ Q R rm rl q f => by
  match ds, q with
  | [d], q =>
    obtain ⟨a, ds, rfl, e, q⟩ := q
    refine sim_len vs _ H μ Q R rm rl ?_ f
    show gLen1 (.adr a) μ R
    unfold gLen1
    simp only [e]
    exact q
def gSrtC : G1 := fun x μ R => ∃ a ss, x = .adr a ∧ μ a = some (.lst (List.map D.str ss)) ∧ ss.length < 64 ∧ ∀ ys : List Str, ys.Perm ss → sortedS ys = true → R (.lst (List.map D.str ys)) μ
theorem sim_srtC {K : PySem.W.Frag} : SimC K (rSortedS K) (g1 gSrtC) := fun vs ds H μ Q R rm rl q f => by
  match ds, q with
  | [d], q =>
    obtain ⟨a, ss, rfl, e, q⟩ := q
    refine sim_sortedS vs _ H μ Q R rm rl ?_ f
    show gSortedS1 (.adr a) μ R
    unfold gSortedS1
    simp only [e]
    exact ⟨ss, rfl, q⟩
theorem erase_map {α β : Type} (f : α → β) : ∀ (l : List α) (i : Nat), (l.map f).eraseIdx i = (l.eraseIdx i).map f
  | [], _ => rfl
  | _ :: _, 0 => rfl
  | a :: l, i + 1 => by
    show f a :: (l.map f).eraseIdx i = f a :: (l.eraseIdx i).map f
    rw [erase_map f l i]
theorem erase_perm {α : Type} : ∀ (l : List α) (i : Nat) (h : i < l.length), (l[i] :: l.eraseIdx i).Perm l
  | a :: l, 0, _ => .refl _
  | a :: l, i + 1, h => by
    have := erase_perm l i (by simpa using h)
    exact (List.Perm.swap _ _ _).trans (this.cons a)
def chs (l : List Nat) : List D := l.map fun c => .str (sg c)
def eight : List Nat := [97, 98, 99, 100, 101, 102, 103, 104]
theorem eight_signs : DL.signs ("abcdefgh" : Str) = chs eight := by
  unfold DL.signs
  have e : ("abcdefgh" : Str).cps.toList = eight := by decide +kernel
  rw [e]
  rfl
def yTie (a b : Nat) : Str := ⟨#[a, b]⟩
structure OkT (p : List Nat) (ts : List Str) : Prop where
  ties : ∀ y ∈ ts, ∃ a b, y = yTie a b ∧ a ∈ p ∧ b ∈ p ∧ a ≤ b
theorem OkT.ok {p : List Nat} {ts : List Str} (h : OkT p ts) (l : ts.length ≤ 11) : OkTies p ts := ⟨l, h.ties⟩
theorem OkT.ends {p : List Nat} {ts : List Str} (h : OkT p ts) : OkEnds p ts := ⟨fun y hy => by
  obtain ⟨a, b, rfl, ha, hb, _⟩ := h.ties y hy
  exact ⟨rfl, ha, hb⟩⟩
theorem OkT.put {p : List Nat} {ts : List Str} (h : OkT p ts) {a b : Nat} (ha : a ∈ p) (hb : b ∈ p) (k : Nat) : OkT p (ts.take k ++ [yTie (min a b) (max a b)] ++ ts.drop k) := ⟨fun y hy => by
  rcases List.mem_append.mp hy with q | q
  · rcases List.mem_append.mp q with q | q
    · exact h.ties y (List.mem_of_mem_take q)
    · rw [List.mem_singleton.mp q]
      have h1 : min a b ∈ p := by
        by_cases e : a ≤ b
        · rw [Nat.min_eq_left e]; exact ha
        · rw [Nat.min_eq_right (by omega)]; exact hb
      have h2 : max a b ∈ p := by
        by_cases e : a ≤ b
        · rw [Nat.max_eq_right e]; exact hb
        · rw [Nat.max_eq_left (by omega)]; exact ha
      exact ⟨_, _, rfl, h1, h2, by omega⟩
  · exact h.ties y (List.mem_of_mem_drop q)⟩
end
end K10
set_option Elab.async false
set_option linter.all false
set_option maxRecDepth 100000
namespace K10
open PySem PySem.Spec PyProof.Rows L2 DL
section
variable {P : Program} {w : World} {K : PySem.W.Frag} {mg : Str → Option Value} {base : Heap} {A : Ad}
/-! what repr is asked to show -/
structure Sh (d : PyData) (k w : Nat) : Prop where
  lay : PyData.canLay0 d = true
  shrt : PyData.intsShort 13 d = true
  show_ : PyData.showable d = true
  dp : PyData.depth d ≤ k
  wt : PyData.weight d ≤ w
theorem Sh.ok {d : PyData} {k w : Nat} (h : Sh d k w) (hk : k ≤ 20) (hw : w ≤ 2 ^ 20) : ShowOk d := by
  refine ⟨?_, h.shrt, h.show_, PyData.hasDict_of_canLay d h.lay, Nat.le_trans h.dp hk⟩
  unfold PyData.layable0
  rw [h.lay, decide_eq_true (show d.depth ≤ 64 by have := h.dp; omega), decide_eq_true (show d.weight ≤ 2 ^ 20 by have := h.wt; omega)]
  rfl
theorem Sh.many {k w : Nat} : ∀ {xs : List PyData}, (∀ x ∈ xs, Sh x k w) → PyData.canLayAll0 xs = true ∧ PyData.intsShortAll 13 xs = true ∧ PyData.showableAll xs = true ∧ PyData.depthAll xs ≤ k ∧ PyData.weightAll xs ≤ xs.length * (w + 1)
  | [], _ => by
    refine ⟨by unfold PyData.canLayAll0; rfl, by unfold PyData.intsShortAll; rfl, by unfold PyData.showableAll; rfl, by unfold PyData.depthAll; omega, by unfold PyData.weightAll; omega⟩
  | x :: xs, h => by
    have hx := h x List.mem_cons_self
    obtain ⟨h1, h2, h3, h4, h5⟩ := Sh.many (xs := xs) fun y hy => h y (List.mem_cons_of_mem _ hy)
    refine ⟨?_, ?_, ?_, ?_, ?_⟩
    · unfold PyData.canLayAll0
      rw [hx.lay, h1]
      rfl
    · unfold PyData.intsShortAll
      rw [hx.shrt, h2]
      rfl
    · unfold PyData.showableAll
      rw [hx.show_, h3]
      rfl
    · unfold PyData.depthAll
      have := hx.dp
      omega
    · unfold PyData.weightAll
      have := hx.wt
      rw [List.length_cons, Nat.succ_mul]
      omega
theorem Sh.tup {k w n : Nat} {xs : List PyData} (h : ∀ x ∈ xs, Sh x k w) (l : xs.length ≤ n) : Sh (.tuple xs) (k + 1) (n * (w + 1)) := by
  obtain ⟨h1, h2, h3, h4, h5⟩ := Sh.many h
  have := Nat.mul_le_mul_right (w + 1) l
  refine ⟨by unfold PyData.canLay0; exact h1, by unfold PyData.intsShort; exact h2, by unfold PyData.showable; exact h3, by unfold PyData.depth; omega, by unfold PyData.weight; omega⟩
theorem Sh.lst {k w n : Nat} {xs : List PyData} (h : ∀ x ∈ xs, Sh x k w) (l : xs.length ≤ n) : Sh (.list xs) (k + 1) (n * (w + 1)) := by
  obtain ⟨h1, h2, h3, h4, h5⟩ := Sh.many h
  have := Nat.mul_le_mul_right (w + 1) l
  refine ⟨by unfold PyData.canLay0; exact h1, by unfold PyData.intsShort; exact h2, by unfold PyData.showable; exact h3, by unfold PyData.depth; omega, by unfold PyData.weight; omega⟩
theorem Sh.mono {d : PyData} {k w k' w' : Nat} (h : Sh d k w) (hk : k ≤ k') (hw : w ≤ w') : Sh d k' w' := ⟨h.lay, h.shrt, h.show_, Nat.le_trans h.dp hk, Nat.le_trans h.wt hw⟩
theorem log_small {n : Nat} (h : n < 8192) : n.log2 < 13 := by
  by_cases e : n = 0
  · subst e
    decide
  · exact (Nat.log2_lt e).mpr h
theorem Sh.int {n : Nat} (h : n < 8192) : Sh (.int (n : Nat)) 0 13 := by
  have l := log_small h
  refine ⟨by unfold PyData.canLay0; rfl, ?_, ?_, by unfold PyData.depth; omega, ?_⟩
  · unfold PyData.intsShort
    rw [decide_eq_true_eq]
    exact PyData.shown_int_le (by show n < 10 ^ 12; omega)
  · unfold PyData.showable
    rw [decide_eq_true_eq]
    show n.log2 < 1920
    omega
  · unfold PyData.weight
    split
    · omega
    · show n.log2 + 1 ≤ 13
      omega
theorem Sh.str {x : Str} (h : ∀ c ∈ x.cps.toList, c < 0x110000) (l : x.cps.size ≤ 13) : Sh (.str x) 0 13 := by
  refine ⟨?_, by unfold PyData.intsShort; rfl, by unfold PyData.showable; rfl, by unfold PyData.depth; omega, by unfold PyData.weight; exact l⟩
  unfold PyData.canLay0 PyData.strOk
  rw [Array.all_eq_true]
  intro i hi
  have := h _ (Array.getElem_mem_toList hi)
  simpa using this
/-! the counts that the law compares -/
theorem OkT.web {p : List Nat} {ts : List Str} (h : OkT p ts) (hp : OkPlaces p) (l : ts.length ≤ 11) : OkWeb p ts := ⟨by have := hp.few; omega, l, h.ends.ties⟩
theorem Sh.shaped {d : PyData} {k w : Nat} (h : Sh d k w) (hk : k ≤ 64) : SeqAt.shaped d = true := by
  unfold SeqAt.shaped
  rw [h.lay, decide_eq_true (Nat.le_trans h.dp hk)]
  rfl
theorem Sh.eqv {d : PyData} {k w : Nat} (h : Sh d k w) : (!PyData.eqv d d) = false := by
  rw [SeqAt.eqv_refl d h.lay]
  rfl
def g_L_right : GC := fun ds μ R => ∃ (a : Addr) (x y z : Int), ds = [.adr a] ∧ μ a = some (pot x y z) ∧ ∀ x y z : Int, R (.bl true) (put μ a (pot x y z))
end
end K10
set_option Elab.async false
set_option linter.all false
set_option maxRecDepth 100000
namespace K10
open PySem PySem.Spec PyProof.Rows L2 DL
/-! ### a tree there is -/
theorem step_same {p r : List Nat} {y : Nat × Nat} (e : r.getD (p.idxOf y.1) 0 = r.getD (p.idxOf y.2) 0) : stepM p r y = r := by
  unfold stepM
  rw [e]
  have : (fun x : Nat => if x = max (r.getD (p.idxOf y.2) 0) (r.getD (p.idxOf y.2) 0) then min (r.getD (p.idxOf y.2) 0) (r.getD (p.idxOf y.2) 0) else x) = fun x => x := by
    funext x
    split
    · rename_i h
      rw [h]
      omega
    · rfl
  show r.map (fun x : Nat => if x = max (r.getD (p.idxOf y.2) 0) (r.getD (p.idxOf y.2) 0) then min (r.getD (p.idxOf y.2) 0) (r.getD (p.idxOf y.2) 0) else x) = r
  rw [this, List.map_id']
theorem step_up {p r : List Nat} (u : p.Pairwise (· ≠ ·)) (h : Roots p r) {y : Nat × Nat} (h1 : y.1 ∈ p) (h2 : y.2 ∈ p) (ne : r.getD (p.idxOf y.1) 0 ≠ r.getD (p.idxOf y.2) 0) : nonFix r p + 1 ≤ nonFix (stepM p r y) p := by
  have e1 := fix_count r p h.len
  have hs := h.step h1 h2
  have e2 := fix_count (stepM p r y) p hs.len
  rw [← fixes_len u h.len] at e1
  rw [← fixes_len u hs.len] at e2
  have l1 : p.idxOf y.1 < r.length := by rw [h.len]; exact List.idxOf_lt_length_of_mem h1
  have l2 : p.idxOf y.2 < r.length := by rw [h.len]; exact List.idxOf_lt_length_of_mem h2
  obtain ⟨a1, a2⟩ := h.own _ (getD_in l1)
  obtain ⟨b1, b2⟩ := h.own _ (getD_in l2)
  have key : ∀ c, c ∈ p → (stepM p r y).getD (p.idxOf c) 0 = (fun x => if x = max (r.getD (p.idxOf y.1) 0) (r.getD (p.idxOf y.2) 0) then min (r.getD (p.idxOf y.1) 0) (r.getD (p.idxOf y.2) 0) else x) (r.getD (p.idxOf c) 0) := fun c hc => by
    unfold stepM
    exact getD_map_ne (by rw [h.len]; exact List.idxOf_lt_length_of_mem hc)
  generalize r.getD (p.idxOf y.1) 0 = a at *
  generalize r.getD (p.idxOf y.2) 0 = b at *
  have mx : max a b ∈ p ∧ r.getD (p.idxOf (max a b)) 0 = max a b := by
    rcases Nat.le_total a b with q | q
    · rw [Nat.max_eq_right q]
      exact ⟨b1, b2⟩
    · rw [Nat.max_eq_left q]
      exact ⟨a1, a2⟩
  have mn : r.getD (p.idxOf (min a b)) 0 = min a b := by
    rcases Nat.le_total a b with q | q
    · rw [Nat.min_eq_left q]
      exact a2
    · rw [Nat.min_eq_right q]
      exact b2
  have lt : min a b < max a b := by omega
  have un : p.Nodup := u
  have := nodup_le (l := max a b :: fixes (stepM p r y) p) (m := fixes r p) (by
    refine List.nodup_cons.mpr ⟨fun hm => ?_, un.filter _⟩
    obtain ⟨k1, k2⟩ := List.mem_filter.mp hm
    have k2 := of_decide_eq_true k2
    rw [key _ k1, mx.2] at k2
    have k2 : (if max a b = max a b then min a b else max a b) = max a b := k2
    rw [if_pos rfl] at k2
    omega) (fun c hc => by
    rcases List.mem_cons.mp hc with e | hc
    · rw [e]
      exact List.mem_filter.mpr ⟨mx.1, decide_eq_true mx.2⟩
    · obtain ⟨k1, k2⟩ := List.mem_filter.mp hc
      have k2 := of_decide_eq_true k2
      rw [key _ k1] at k2
      have k2 : (if r.getD (p.idxOf c) 0 = max a b then min a b else r.getD (p.idxOf c) 0) = c := k2
      refine List.mem_filter.mpr ⟨k1, decide_eq_true ?_⟩
      by_cases e : r.getD (p.idxOf c) 0 = max a b
      · rw [if_pos e] at k2
        rw [← k2, mn] at e
        omega
      · rwa [if_neg e] at k2)
  rw [List.length_cons] at this
  omega
theorem ties_snoc (ts : List Str) (lot : List Nat) (i : Nat) : tiesOf ts (lot ++ [i]) = tiesOf ts lot ++ [ends (ts.getD i Str.empty)] := by
  unfold tiesOf
  rw [List.map_append]
  rfl
end K10
set_option Elab.async false
set_option linter.all false
set_option maxRecDepth 100000
namespace K10
open PySem PySem.Spec PyProof.Rows L2 DL
/-! ### marks tell what is joined, whatever the order of the ties -/
def markOf (p r : List Nat) (a : Nat) : Nat := r.getD (p.idxOf a) 0
inductive Conn (ys : List (Nat × Nat)) : Nat → Nat → Prop
  | refl (a : Nat) : Conn ys a a
  | tie {y : Nat × Nat} (h : y ∈ ys) : Conn ys y.1 y.2
  | symm {a b : Nat} (h : Conn ys a b) : Conn ys b a
  | trans {a b c : Nat} (h : Conn ys a b) (k : Conn ys b c) : Conn ys a c
theorem Conn.mono {ys zs : List (Nat × Nat)} (s : ∀ y ∈ ys, y ∈ zs) {a b : Nat} (h : Conn ys a b) : Conn zs a b := by
  induction h with
  | refl a => exact .refl a
  | tie h => exact .tie (s _ h)
  | symm _ ih => exact ih.symm
  | trans _ _ i1 i2 => exact i1.trans i2
theorem mark_step {p r : List Nat} (hl : r.length = p.length) {y : Nat × Nat} {a : Nat} (ha : a ∈ p) :
    markOf p (stepM p r y) a = if markOf p r a = max (markOf p r y.1) (markOf p r y.2) then min (markOf p r y.1) (markOf p r y.2) else markOf p r a := by
  unfold markOf stepM
  rw [getD_map_ne (by rw [hl]; exact List.idxOf_lt_length_of_mem ha)]
theorem mark_self {p : List Nat} {a : Nat} (ha : a ∈ p) : markOf p p a = a := by
  unfold markOf
  rw [List.getD_eq_getElem?_getD, List.getElem?_eq_getElem (List.idxOf_lt_length_of_mem ha), List.getElem_idxOf]
  rfl
theorem marks_len (p : List Nat) (ys : List (Nat × Nat)) : (marksL p ys).length = p.length := foldl_len p ys p
theorem snoc_ind {α : Type} {P : List α → Prop} (h0 : P []) (h1 : ∀ l a, P l → P (l ++ [a])) : ∀ l, P l := fun l => by
  have : ∀ (n : Nat) (l : List α), l.length = n → P l := by
    intro n
    induction n with
    | zero => intro l hl; rw [List.eq_nil_of_length_eq_zero hl]; exact h0
    | succ n ih =>
      intro l hl
      have hn : l ≠ [] := fun e => by rw [e] at hl; cases hl
      rw [← List.dropLast_concat_getLast hn]
      exact h1 _ _ (ih _ (by rw [List.length_dropLast, hl]; rfl))
  exact this l.length l rfl
def InP (p : List Nat) (ys : List (Nat × Nat)) : Prop := ∀ y ∈ ys, y.1 ∈ p ∧ y.2 ∈ p
theorem InP.left {p : List Nat} {ys : List (Nat × Nat)} {y : Nat × Nat} (h : InP p (ys ++ [y])) : InP p ys := fun z hz => h z (List.mem_append.mpr (.inl hz))
theorem InP.last {p : List Nat} {ys : List (Nat × Nat)} {y : Nat × Nat} (h : InP p (ys ++ [y])) : y.1 ∈ p ∧ y.2 ∈ p := h y (List.mem_append.mpr (.inr (List.mem_singleton.mpr rfl)))
/-- ties join their ends -/
theorem tie_marks {p : List Nat} : ∀ ys, InP p ys → ∀ y ∈ ys, markOf p (marksL p ys) y.1 = markOf p (marksL p ys) y.2 := by
  refine snoc_ind (P := fun ys => InP p ys → ∀ y ∈ ys, markOf p (marksL p ys) y.1 = markOf p (marksL p ys) y.2) (fun _ y hy => by cases hy) ?_
  intro ys z ih hp y hy
  obtain ⟨m1, m2⟩ := hp y hy
  rw [marksL_snoc, mark_step (marks_len p ys) m1, mark_step (marks_len p ys) m2]
  rcases List.mem_append.mp hy with q | q
  · rw [ih hp.left y q]
  · rw [List.mem_singleton.mp q]
    generalize markOf p (marksL p ys) z.1 = a
    generalize markOf p (marksL p ys) z.2 = b
    split <;> split <;> omega
theorem conn_marks {p : List Nat} {ys : List (Nat × Nat)} (hp : InP p ys) {a b : Nat} (h : Conn ys a b) : markOf p (marksL p ys) a = markOf p (marksL p ys) b := by
  induction h with
  | refl a => rfl
  | tie h => exact tie_marks ys hp _ h
  | symm _ ih => exact ih.symm
  | trans _ _ i1 i2 => exact i1.trans i2
theorem marks_conn {p : List Nat} : ∀ ys, InP p ys → ∀ a b, a ∈ p → b ∈ p → markOf p (marksL p ys) a = markOf p (marksL p ys) b → Conn ys a b := by
  refine snoc_ind (P := fun ys => InP p ys → ∀ a b, a ∈ p → b ∈ p → markOf p (marksL p ys) a = markOf p (marksL p ys) b → Conn ys a b) ?_ ?_
  · intro _ a b ha hb e
    have e : markOf p p a = markOf p p b := e
    rw [mark_self ha, mark_self hb] at e
    rw [e]
    exact .refl b
  · intro ys z ih hp a b ha hb e
    have sub : ∀ y ∈ ys, y ∈ ys ++ [z] := fun y hy => List.mem_append.mpr (.inl hy)
    obtain ⟨z1, z2⟩ := hp.last
    have hz : Conn (ys ++ [z]) z.1 z.2 := .tie (List.mem_append.mpr (.inr (List.mem_singleton.mpr rfl)))
    rw [marksL_snoc, mark_step (marks_len p ys) ha, mark_step (marks_len p ys) hb] at e
    have key : ∀ c d, c ∈ p → d ∈ p → markOf p (marksL p ys) c = markOf p (marksL p ys) d → Conn (ys ++ [z]) c d := fun c d hc hd h => (ih hp.left c d hc hd h).mono sub
    have ka1 := key a z.1 ha z1
    have ka2 := key a z.2 ha z2
    have kb1 := key b z.1 hb z1
    have kb2 := key b z.2 hb z2
    have kab := key a b ha hb
    generalize markOf p (marksL p ys) a = x at e ka1 ka2 kab
    generalize markOf p (marksL p ys) b = y at e kb1 kb2 kab
    generalize markOf p (marksL p ys) z.1 = m at e ka1 ka2 kb1 kb2
    generalize markOf p (marksL p ys) z.2 = n at e ka1 ka2 kb1 kb2
    by_cases exy : x = y
    · exact kab exy
    · have h : (x = m ∧ y = n) ∨ (x = n ∧ y = m) := by
        split at e <;> split at e <;> omega
      rcases h with ⟨h1, h2⟩ | ⟨h1, h2⟩
      · exact ((ka1 h1).trans hz).trans (kb2 h2).symm
      · exact ((ka2 h1).trans hz.symm).trans (kb1 h2).symm
theorem mark_le {p : List Nat} : ∀ ys, InP p ys → ∀ a ∈ p, markOf p (marksL p ys) a ≤ a := by
  refine snoc_ind (P := fun ys => InP p ys → ∀ a ∈ p, markOf p (marksL p ys) a ≤ a) (fun _ a ha => by show markOf p p a ≤ a; rw [mark_self ha]; exact Nat.le_refl _) ?_
  intro ys z ih hp a ha
  rw [marksL_snoc, mark_step (marks_len p ys) ha]
  have := ih hp.left a ha
  split <;> omega
theorem mark_root {p : List Nat} (u : p.Pairwise (· ≠ ·)) {ys : List (Nat × Nat)} (hp : InP p ys) {a : Nat} (ha : a ∈ p) : markOf p (marksL p ys) a ∈ p ∧ markOf p (marksL p ys) (markOf p (marksL p ys) a) = markOf p (marksL p ys) a :=
  (roots_marks u hp).own _ (getD_in (by rw [marks_len]; exact List.idxOf_lt_length_of_mem ha))
/-- the marks hang on what is joined alone -/
theorem same_marks {p : List Nat} (u : p.Pairwise (· ≠ ·)) {ys zs : List (Nat × Nat)} (hy : InP p ys) (hz : InP p zs) (h1 : ∀ y ∈ ys, y ∈ zs) (h2 : ∀ y ∈ zs, y ∈ ys) : marksL p ys = marksL p zs := by
  have le : ∀ {ys zs : List (Nat × Nat)}, InP p ys → InP p zs → (∀ y ∈ ys, y ∈ zs) → ∀ a ∈ p, markOf p (marksL p zs) a ≤ markOf p (marksL p ys) a := fun {ys zs} hy hz s a ha => by
    obtain ⟨r1, r2⟩ := mark_root u hy ha
    have c := (marks_conn ys hy a _ ha r1 r2.symm).mono s
    rw [conn_marks hz c]
    exact mark_le zs hz _ r1
  apply List.ext_getElem (by rw [marks_len, marks_len])
  intro i h3 h4
  have hi : i < p.length := by rwa [marks_len] at h3
  have e := Nat.le_antisymm (le hz hy h2 p[i] (List.getElem_mem hi)) (le hy hz h1 p[i] (List.getElem_mem hi))
  unfold markOf at e
  rw [idx_get u hi, List.getD_eq_getElem?_getD, List.getD_eq_getElem?_getD, List.getElem?_eq_getElem h3, List.getElem?_eq_getElem h4] at e
  exact e
/-! ### ranks of lots in any order -/
def Ends (p : List Nat) (ts : List Str) : Prop := ∀ y ∈ ts, (ends y).1 ∈ p ∧ (ends y).2 ∈ p
theorem ties_in {p : List Nat} {ts : List Str} (he : Ends p ts) {v : List Nat} (hv : ∀ k ∈ v, k < ts.length) : InP p (tiesOf ts v) := fun y hy => by
  obtain ⟨i, hi, e⟩ := List.mem_map.mp hy
  have hi2 := hv i hi
  have : ts.getD i Str.empty = ts[i] := by rw [List.getD_eq_getElem?_getD, List.getElem?_eq_getElem hi2]; rfl
  rw [← e, this]
  exact he _ (List.getElem_mem _)
theorem lot_marks {p : List Nat} (u : p.Pairwise (· ≠ ·)) {ts : List Str} (he : Ends p ts) {v w : List Nat} (hv : ∀ k ∈ v, k < ts.length) (hw : ∀ k ∈ w, k < ts.length) (h1 : ∀ k ∈ v, k ∈ w) (h2 : ∀ k ∈ w, k ∈ v) : marksL p (tiesOf ts v) = marksL p (tiesOf ts w) := by
  refine same_marks u (ties_in he hv) (ties_in he hw) (fun y hy => ?_) (fun y hy => ?_)
  · obtain ⟨i, hi, e⟩ := List.mem_map.mp hy
    exact List.mem_map.mpr ⟨i, h1 i hi, e⟩
  · obtain ⟨i, hi, e⟩ := List.mem_map.mp hy
    exact List.mem_map.mpr ⟨i, h2 i hi, e⟩
theorem lot_rank {p : List Nat} (u : p.Pairwise (· ≠ ·)) {ts : List Str} (he : Ends p ts) {v w : List Nat} (hv : ∀ k ∈ v, k < ts.length) (hw : ∀ k ∈ w, k < ts.length) (h1 : ∀ k ∈ v, k ∈ w) (h2 : ∀ k ∈ w, k ∈ v) : rankOf p ts v = rankOf p ts w := by
  show nonFix (marksL p (tiesOf ts v)) p = nonFix (marksL p (tiesOf ts w)) p
  rw [lot_marks u he hv hw h1 h2]
/-- whether a tie's ends are not joined by a lot -/
def partsL (p : List Nat) (ts : List Str) (v : List Nat) (k : Nat) : Bool := decide (markOf p (marksL p (tiesOf ts v)) (ends (ts.getD k Str.empty)).1 ≠ markOf p (marksL p (tiesOf ts v)) (ends (ts.getD k Str.empty)).2)
theorem rank_more {p : List Nat} (u : p.Pairwise (· ≠ ·)) {ts : List Str} (he : Ends p ts) {v : List Nat} {k : Nat} (hv : ∀ j ∈ v, j < ts.length) (hk : k < ts.length) : rankOf p ts (v ++ [k]) = rankOf p ts v + if partsL p ts v k = true then 1 else 0 := by
  have et : ts.getD k Str.empty = ts[k] := by rw [List.getD_eq_getElem?_getD, List.getElem?_eq_getElem hk]; rfl
  obtain ⟨m1, m2⟩ := he _ (List.getElem_mem hk)
  show nonFix (marksL p (tiesOf ts (v ++ [k]))) p = nonFix (marksL p (tiesOf ts v)) p + _
  rw [ties_snoc, marksL_snoc]
  by_cases c : markOf p (marksL p (tiesOf ts v)) (ends (ts.getD k Str.empty)).1 = markOf p (marksL p (tiesOf ts v)) (ends (ts.getD k Str.empty)).2
  · have hf : partsL p ts v k = false := decide_eq_false (fun h => h c)
    rw [hf, step_same c]
    rfl
  · have hf : partsL p ts v k = true := decide_eq_true c
    rw [hf, if_pos rfl]
    refine Nat.le_antisymm ?_ ?_
    · have := nonFix_step u (marksL p (tiesOf ts v)) (ends (ts.getD k Str.empty))
      exact this
    · rw [et] at c ⊢
      exact step_up u (roots_marks u (ties_in he hv)) m1 m2 c
/-- ties that part nothing leave the rank -/
theorem rank_same {p : List Nat} (u : p.Pairwise (· ≠ ·)) {ts : List Str} (he : Ends p ts) (v : List Nat) (hv : ∀ j ∈ v, j < ts.length) : ∀ w : List Nat, (∀ j ∈ w, j < ts.length) → (∀ j ∈ w, partsL p ts v j = false) → marksL p (tiesOf ts (v ++ w)) = marksL p (tiesOf ts v) := by
  refine snoc_ind (P := fun w => (∀ j ∈ w, j < ts.length) → (∀ j ∈ w, partsL p ts v j = false) → marksL p (tiesOf ts (v ++ w)) = marksL p (tiesOf ts v)) (fun _ _ => by rw [List.append_nil]) ?_
  intro w k ih hw hn
  have e := ih (fun j hj => hw j (List.mem_append.mpr (.inl hj))) (fun j hj => hn j (List.mem_append.mpr (.inl hj)))
  rw [← List.append_assoc, ties_snoc, marksL_snoc, e]
  have := hn k (List.mem_append.mpr (.inr (List.mem_singleton.mpr rfl)))
  have := of_decide_eq_false this
  exact step_same (Classical.not_not.mp this)
/-! ### trees, and exchanges -/
structure IsTree (p : List Nat) (ts : List Str) (r : Nat) (v : List Nat) : Prop where
  asc : v.Pairwise (· < ·)
  few : ∀ k ∈ v, k < ts.length
  len : v.length = r
  rank : rankOf p ts v = r
theorem IsTree.nodup {p : List Nat} {ts : List Str} {r : Nat} {v : List Nat} (h : IsTree p ts r v) : v.Nodup := h.asc.imp fun h => Nat.ne_of_lt h
theorem lots_all : ∀ (n : Nat) (v : List Nat), v.Pairwise (· < ·) → (∀ k ∈ v, k < n) → v ∈ lotsL n
  | 0, v, _, h => by
    have : v = [] := List.eq_nil_iff_forall_not_mem.mpr fun k hk => Nat.not_lt_zero _ (h k hk)
    rw [this]
    exact List.mem_singleton.mpr rfl
  | n + 1, v, ha, h => by
    by_cases hn : n ∈ v
    · have ne : v ≠ [] := fun e => by rw [e] at hn; cases hn
      have ev := List.dropLast_concat_getLast ne
      have hl := h _ (List.getLast_mem ne)
      rw [← ev, List.pairwise_append] at ha
      have last : v.getLast ne = n := by
        rw [← ev] at hn
        rcases List.mem_append.mp hn with q | q
        · have := ha.2.2 n q _ (List.mem_singleton.mpr rfl)
          omega
        · exact (List.mem_singleton.mp q).symm
      refine List.mem_append.mpr (.inr (List.mem_map.mpr ⟨v.dropLast, lots_all n _ ha.1 (fun k hk => ?_), by rw [← last]; exact ev⟩))
      have := ha.2.2 k hk _ (List.mem_singleton.mpr rfl)
      omega
    · refine List.mem_append.mpr (.inl (lots_all n v ha fun k hk => ?_))
      have := h k hk
      have : k ≠ n := fun e => hn (e ▸ hk)
      omega
def wout (v : List Nat) (o : Nat) : List Nat := v.filter fun k => decide (k ≠ o)
theorem wout_mem {v : List Nat} {o k : Nat} : k ∈ wout v o ↔ k ∈ v ∧ k ≠ o := by
  unfold wout
  rw [List.mem_filter, decide_eq_true_eq]
theorem wout_len {v : List Nat} (u : v.Nodup) {o : Nat} (ho : o ∈ v) : (wout v o).length + 1 = v.length := by
  have e : (wout v o).length + 1 = (o :: wout v o).length := rfl
  rw [e]
  refine nodup_same (List.nodup_cons.mpr ⟨fun h => (wout_mem.mp h).2 rfl, u.filter _⟩) u fun x => ?_
  rw [List.mem_cons, wout_mem]
  constructor
  · rintro (rfl | h)
    · exact ho
    · exact h.1
  · intro h
    by_cases e : x = o
    · exact .inl e
    · exact .inr ⟨h, e⟩
section
variable {p : List Nat} {ts : List Str} {r : Nat}
theorem IsTree.less (u : p.Pairwise (· ≠ ·)) (he : Ends p ts) {v : List Nat} (h : IsTree p ts r v) {o : Nat} (ho : o ∈ v) : rankOf p ts (wout v o) + 1 = r ∧ partsL p ts (wout v o) o = true := by
  have hf : ∀ k ∈ wout v o, k < ts.length := fun k hk => h.few k (wout_mem.mp hk).1
  have e : rankOf p ts (wout v o ++ [o]) = r := by
    rw [← h.rank]
    refine lot_rank u he (fun k hk => ?_) h.few (fun k hk => ?_) (fun k hk => ?_)
    · rcases List.mem_append.mp hk with q | q
      · exact hf k q
      · rw [List.mem_singleton.mp q]; exact h.few o ho
    · rcases List.mem_append.mp hk with q | q
      · exact (wout_mem.mp q).1
      · rw [List.mem_singleton.mp q]; exact ho
    · by_cases e : k = o
      · exact List.mem_append.mpr (.inr (List.mem_singleton.mpr e))
      · exact List.mem_append.mpr (.inl (wout_mem.mpr ⟨hk, e⟩))
  rw [rank_more u he hf (h.few o ho)] at e
  have h1 := rank_le u ts (wout v o)
  have h2 := wout_len h.nodup ho
  have h3 := h.len
  cases c : partsL p ts (wout v o) o with
  | true => rw [c, if_pos rfl] at e; exact ⟨e, rfl⟩
  | false => rw [c] at e; simp at e; omega
/-- the other ties -/
def outs (v : List Nat) (n : Nat) : List Nat := (List.range n).filter fun k => decide (k ∉ v)
end
end K10
set_option Elab.async false
set_option linter.all false
set_option maxRecDepth 100000
namespace K10
open PySem PySem.Spec PyProof.Rows L2 DL
section
variable {P : Program} {w : World} {K : PySem.W.Frag} {mg : Str → Option Value} {base : Heap} {A : Ad}
/-! ### lots with a condition -/
def onK (q : Nat → Bool) : D → Bool
  | .int k => q k.toNat
  | _ => false
theorem filt_lot {q : Nat → Bool} {v : List Nat} : ((((v.map Int.ofNat).map D.int).filter (onK q)).map id) = ((v.filter q).map Int.ofNat).map D.int := by
  rw [List.map_id, List.filter_map, List.filter_map]
  rfl
theorem range_lot (n : Nat) : ((List.range n).map fun i => D.int (i : Nat)) = ((List.range n).map Int.ofNat).map D.int := by
  rw [List.map_map]
  rfl
theorem OkWeb.ends {p : List Nat} {ts : List Str} (ok : OkWeb p ts) : Ends p ts := fun y hy => (ok.ties y hy).2
theorem ne_nat {j o : Nat} : (!decide ((j : Int) = (o : Int))) = decide (j ≠ o) := by
  by_cases e : j = o
  · subst e
    simp
  · have : ¬ ((j : Int) = (o : Int)) := by omega
    rw [decide_eq_false this, decide_eq_true e]
    rfl
def g_without : GC := fun ds μ R => ∃ (v : List Nat) (o : Nat), ds = [dLot v, .int (o : Nat)] ∧ v.length ≤ 1000 ∧ R (dLot (wout v o)) μ
def N36 : List Str := ["lot", "index", "other"]
theorem sc36 : FnScope N36 ["lot", "index"] (defScope (top 36)) := ⟨rfl, rfl, rfl, by decide +kernel, rfl, by decide +kernel, by decide +kernel⟩
theorem ok_without (T : Tx K mg A) : FnOk P w K mg base CX0 1 A.without A.fd_without ["lot", "index"] (toSp K (g_without)) := by
  refine okD T.F_without sc36 (fun ds μ R h => ?_) ⟨_, fun cdv A0 outer s H E hr =>
    (dss_one (ds_ret (de_callTy call_tuple_of sim_tuple (by rfl) T.z_tuple boot_tuple (da_cons (de_lc (own := [("other", 2)]) (by rfl) sc36.nd (di_both (dv 0)) (blkOk_by (N := N36) (own := [("other", 2)]) (sc := defScope (top 36)) (by decide +kernel)) (fun _ _ _ _ _ => (pg_name (i := 2) sc36.nd rfl (by first | exact Or.inl rfl | exact Or.inr rfl))) (sim_nm (i := 2)) (fun _ _ _ _ _ => (dts_one (dt_cmp (op_neA hr.units) sim_ne (dv 2) (dv 1) (nomark _)))) (fun _ _ _ _ _ => (dv 2))) da_nil)))), fun ds μ R h => ?_⟩
  · obtain ⟨v, o, rfl, _⟩ := h
    rfl
  · obtain ⟨v, o, rfl, hv, h⟩ := h
    show LcB _ _ _ _ _ _ _ _
    refine lcb_pure (onK fun k => decide (k ≠ o)) id ?_ ?_ ?_
    · rw [List.length_map, List.length_map, sizeLine_eq]
      omega
    · intro x hx μ2 N Y _ hN hY
      obtain ⟨j, hj, rfl⟩ := items_lot hx
      refine if_case (c := !decide ((j : Int) = (o : Int))) (fun e => hY ?_) (fun e => hN ?_)
      · rw [ne_nat] at e
        exact e
      · rw [ne_nat] at e
        exact e
    · rw [filt_lot]
      exact h
theorem int_mem {j : Nat} {v : List Nat} : decide ((j : Int) ∈ v.map Int.ofNat) = decide (j ∈ v) := by
  refine decide_eq_decide.mpr ⟨fun h => ?_, fun h => List.mem_map.mpr ⟨j, h, rfl⟩⟩
  obtain ⟨i, hi, e⟩ := List.mem_map.mp h
  have e : i = j := Int.ofNat.inj e
  rw [← e]
  exact hi
end
end K10
set_option Elab.async false
set_option linter.all false
set_option maxRecDepth 100000
namespace K10
open PySem PySem.Spec PyProof.Rows L2 DL PySem.W
/-! ### herds -/
/-- ties that cross a herd's border -/
def crB (h : List Nat) (y : Str) : Bool := decide ((ends y).1 ∈ h) != decide ((ends y).2 ∈ h)
def nx (ts : List Str) (h : List Nat) : Nat := (ts.filter (crB h)).length
/-! ### marks as a function -/
def stepF (μ : Nat → Nat) (y : Nat × Nat) : Nat → Nat := fun c => if μ c = max (μ y.1) (μ y.2) then min (μ y.1) (μ y.2) else μ c
def marksF (μ : Nat → Nat) (ys : List (Nat × Nat)) : Nat → Nat := ys.foldl stepF μ
/-! ### the least of some numbers -/
/-! ### the least of some data, the order of herds -/
theorem dle_total {β : Type} (k : β → PyData) : TotalLe (dataLe false k) := sortLe_total _ _ _
theorem minD_least : ∀ (pr : List PyData) (p0 : PyData), (∀ q, (q = p0 ∨ q ∈ pr) → dataLt q (minD p0 pr) = false) ∧ (minD p0 pr = p0 ∨ minD p0 pr ∈ pr) := by
  have tr : ∀ a b c : PyData, dataLt b a = false → dataLt c b = false → dataLt c a = false := fun a b c h1 h2 => by
    have := (dle_total (id : PyData → PyData)).trans a b c (by show (!dataLt b a) = true; rw [h1]; rfl) (by show (!dataLt c b) = true; rw [h2]; rfl)
    have this : (!dataLt c a) = true := this
    rwa [Bool.not_eq_true'] at this
  have as : ∀ a b : PyData, dataLt a b = true → dataLt b a = false := fun a b h => by
    rcases (dle_total (id : PyData → PyData)).total a b with q | q
    · have q : (!dataLt b a) = true := q
      rwa [Bool.not_eq_true'] at q
    · have q : (!dataLt a b) = true := q
      rw [h] at q
      cases q
  have rf : ∀ a : PyData, dataLt a a = false := fun a => by
    cases q : dataLt a a with
    | false => rfl
    | true =>
      have := as a a q
      rw [q] at this
      cases this
  intro pr
  induction pr with
  | nil =>
    intro p0
    refine ⟨fun q hq => ?_, .inl rfl⟩
    rcases hq with rfl | hq
    · exact rf _
    · cases hq
  | cons y pr ih =>
    intro p0
    obtain ⟨h1, h2⟩ := ih (if dataLt y p0 then y else p0)
    have e : minD p0 (y :: pr) = minD (if dataLt y p0 then y else p0) pr := rfl
    rw [e]
    refine ⟨fun q hq => ?_, ?_⟩
    · have top := h1 _ (.inl rfl)
      rcases hq with rfl | hq
      · cases c : dataLt y q with
        | false => rw [c] at top; exact top
        | true =>
          rw [c, if_pos rfl] at top
          rw [if_pos rfl]
          exact tr _ _ _ top (as _ _ c)
      · rcases List.mem_cons.mp hq with rfl | hq
        · cases c : dataLt q p0 with
          | true => rw [c] at top; exact top
          | false =>
            rw [c, if_neg Bool.false_ne_true] at top
            rw [if_neg Bool.false_ne_true]
            exact tr _ _ _ top c
        · exact h1 q (.inr hq)
    · rcases h2 with e2 | e2
      · rw [e2]
        cases dataLt y p0
        · exact .inl rfl
        · exact .inr List.mem_cons_self
      · exact .inr (List.mem_cons_of_mem _ e2)
end K10
set_option Elab.async false
set_option linter.all false
set_option maxRecDepth 100000
namespace DL
open PySem PySem.Spec PyProof.Rows L2
/-! ### a text times a number -/
end DL
set_option Elab.async false
set_option linter.all false
set_option maxRecDepth 100000
set_option Elab.async false
set_option linter.all false
set_option maxRecDepth 100000
namespace K10
open DL
/-! ### ranks alone: early and late elements, and all lots (Crapo, Tutte) -/
def Lt (n : Nat) (v : List Nat) : Prop := ∀ k ∈ v, k < n
structure Mat (n : Nat) (ρ : List Nat → Nat) : Prop where
  nil : ρ [] = 0
  mem : ∀ v w, Lt n v → Lt n w → (∀ k, k ∈ v ↔ k ∈ w) → ρ v = ρ w
  step : ∀ v k, Lt n v → k < n → ρ (v ++ [k]) = ρ v ∨ ρ (v ++ [k]) = ρ v + 1
  clo : ∀ v w k, Lt n v → Lt n w → (∀ j ∈ v, j ∈ w) → k < n → ρ (v ++ [k]) = ρ v → ρ (w ++ [k]) = ρ w
theorem Lt.snoc {n : Nat} {v : List Nat} (h : Lt n v) {k : Nat} (hk : k < n) : Lt n (v ++ [k]) := fun j hj => by
  rcases List.mem_append.mp hj with q | q
  · exact h j q
  · rw [List.mem_singleton.mp q]; exact hk
theorem Lt.wout {n : Nat} {v : List Nat} (h : Lt n v) (o : Nat) : Lt n (wout v o) := fun j hj => h j (wout_mem.mp hj).1
theorem lt_range (n : Nat) : Lt n (List.range n) := fun k hk => List.mem_range.mp hk
section
variable {n : Nat} {ρ : List Nat → Nat}
theorem Mat.le (M : Mat n ρ) {v : List Nat} (hv : Lt n v) {k : Nat} (hk : k < n) : ρ v ≤ ρ (v ++ [k]) := by
  rcases M.step v k hv hk with h | h <;> omega
theorem Mat.le1 (M : Mat n ρ) {v : List Nat} (hv : Lt n v) {k : Nat} (hk : k < n) : ρ (v ++ [k]) ≤ ρ v + 1 := by
  rcases M.step v k hv hk with h | h <;> omega
theorem Mat.app (M : Mat n ρ) (v : List Nat) (hv : Lt n v) : ∀ w : List Nat, Lt n w → ρ v ≤ ρ (v ++ w) := by
  refine snoc_ind (P := fun w => Lt n w → ρ v ≤ ρ (v ++ w)) (fun _ => by rw [List.append_nil]; exact Nat.le_refl _) ?_
  intro w k ih hw
  have h1 := ih fun j hj => hw j (List.mem_append.mpr (.inl hj))
  rw [← List.append_assoc]
  exact Nat.le_trans h1 (M.le (fun j hj => (List.mem_append.mp hj).elim (hv j) fun q => hw j (List.mem_append.mpr (.inl q))) (hw k (List.mem_append.mpr (.inr (List.mem_singleton.mpr rfl)))))
theorem Mat.sub (M : Mat n ρ) {v w : List Nat} (hv : Lt n v) (hw : Lt n w) (s : ∀ k ∈ v, k ∈ w) : ρ v ≤ ρ w := by
  have h := M.app v hv w hw
  rw [M.mem (v ++ w) w (fun j hj => (List.mem_append.mp hj).elim (hv j) (hw j)) hw fun k => ⟨fun h => (List.mem_append.mp h).elim (s k) id, fun h => List.mem_append.mpr (.inr h)⟩] at h
  exact h
theorem Mat.full (M : Mat n ρ) {v : List Nat} (hv : Lt n v) : ρ v ≤ ρ (List.range n) := M.sub hv (lt_range n) fun k hk => List.mem_range.mpr (hv k hk)
theorem Mat.len (M : Mat n ρ) : ∀ v : List Nat, Lt n v → ρ v ≤ v.length := by
  refine snoc_ind (P := fun v => Lt n v → ρ v ≤ v.length) (fun _ => by rw [M.nil]; exact Nat.zero_le _) ?_
  intro v k ih hv
  have h0 : Lt n v := fun j hj => hv j (List.mem_append.mpr (.inl hj))
  have h1 := M.le1 h0 (hv k (List.mem_append.mpr (.inr (List.mem_singleton.mpr rfl))))
  have h2 := ih h0
  rw [List.length_append, List.length_singleton]
  omega
/-- what adds nothing one by one, adds nothing at all -/
theorem Mat.same (M : Mat n ρ) (v : List Nat) (hv : Lt n v) : ∀ w : List Nat, Lt n w → (∀ k ∈ w, ρ (v ++ [k]) = ρ v) → ρ (v ++ w) = ρ v := by
  refine snoc_ind (P := fun w => Lt n w → (∀ k ∈ w, ρ (v ++ [k]) = ρ v) → ρ (v ++ w) = ρ v) (fun _ _ => by rw [List.append_nil]) ?_
  intro w k ih hw h
  have hw0 : Lt n w := fun j hj => hw j (List.mem_append.mpr (.inl hj))
  have hk : k < n := hw k (List.mem_append.mpr (.inr (List.mem_singleton.mpr rfl)))
  have e := ih hw0 fun j hj => h j (List.mem_append.mpr (.inl hj))
  rw [← List.append_assoc, M.clo v (v ++ w) k hv (fun j hj => (List.mem_append.mp hj).elim (hv j) (hw0 j)) (fun j hj => List.mem_append.mpr (.inl hj)) hk (h k (List.mem_append.mpr (.inr (List.mem_singleton.mpr rfl))))]
  exact e
theorem Mat.swap (M : Mat n ρ) {v : List Nat} (hv : Lt n v) {j k : Nat} (hj : j < n) (hk : k < n) : ρ (v ++ [j] ++ [k]) = ρ (v ++ [k] ++ [j]) :=
  M.mem _ _ ((hv.snoc hj).snoc hk) ((hv.snoc hk).snoc hj) fun i => by simp only [List.mem_append, List.mem_singleton]; constructor <;> (rintro ((h | h) | h) <;> simp [h])
end
/-! ### trees, exchanges -/
def full (ρ : List Nat → Nat) (n : Nat) : Nat := ρ (List.range n)
theorem outs_mem {v : List Nat} {n k : Nat} : k ∈ outs v n ↔ k < n ∧ k ∉ v := by
  unfold outs
  rw [List.mem_filter, List.mem_range, decide_eq_true_eq]
structure TreeR (ρ : List Nat → Nat) (n : Nat) (v : List Nat) : Prop where
  asc : v.Pairwise (· < ·)
  lt : Lt n v
  len : v.length = ρ v
  top : ρ v = full ρ n
section
variable {n : Nat} {ρ : List Nat → Nat}
theorem TreeR.nodup {v : List Nat} (h : TreeR ρ n v) : v.Nodup := h.asc.imp fun h => Nat.ne_of_lt h
theorem wout_back (M : Mat n ρ) {v : List Nat} (hv : Lt n v) {o : Nat} (ho : o ∈ v) : ρ (wout v o ++ [o]) = ρ v :=
  M.mem _ _ ((hv.wout o).snoc (hv o ho)) hv fun k => by
    rw [List.mem_append, List.mem_singleton, wout_mem]
    constructor
    · rintro (h | h)
      · exact h.1
      · rw [h]; exact ho
    · intro h
      by_cases e : k = o
      · exact .inr e
      · exact .inl ⟨h, e⟩
theorem TreeR.less (M : Mat n ρ) {v : List Nat} (h : TreeR ρ n v) {o : Nat} (ho : o ∈ v) : ρ (wout v o) + 1 = full ρ n := by
  have h1 := M.len _ (h.lt.wout o)
  have h2 := wout_len h.nodup ho
  have h3 := wout_back M h.lt ho
  have h4 := M.le1 (h.lt.wout o) (h.lt o ho)
  have h5 := h.len
  have h6 := h.top
  omega
end
/-! ### choosing -/
def ch : Nat → Nat → Nat
  | _, 0 => 1
  | 0, _ + 1 => 0
  | m + 1, k + 1 => ch m k + ch m (k + 1)
def cnt (ρ : List Nat → Nat) (n a b : Nat) : Nat := ((lotsL n).filter fun v => decide (a + ρ v = full ρ n ∧ v.length = ρ v + b)).length
theorem lots_lt {n : Nat} {v : List Nat} (h : v ∈ lotsL n) : Lt n v := (lots_in n v h).1
end K10
set_option Elab.async false
set_option linter.all false
set_option maxRecDepth 100000
namespace K10
open PySem PySem.Spec PyProof.Rows L2 DL
section
variable {P : Program} {w : World} {K : PySem.W.Frag} {mg : Str → Option Value} {base : Heap} {A : Ad}
/-! ### the law's own exchanges -/
theorem IsTree.size {p : List Nat} {ts : List Str} {r : Nat} {v : List Nat} (h : IsTree p ts r v) : v.length ≤ ts.length := asc_len ⟨h.asc, h.few⟩
end
end K10
set_option Elab.async false
set_option linter.all false
set_option maxRecDepth 100000
namespace K10
open PySem PySem.Spec PyProof.Rows L2 DL
section
variable {P : Program} {w : World} {K : PySem.W.Frag} {mg : Str → Option Value} {base : Heap} {A : Ad}
/-! ### lengths -/
structure OkLen (n : Nat) (ns : List Int) : Prop where
  len : ns.length = n
  lo : ∀ v ∈ ns, -1000000000 ≤ v
  hi : ∀ v ∈ ns, v ≤ 1000000000
end
end K10
set_option Elab.async false
set_option linter.all false
set_option maxRecDepth 100000
namespace K10
open PySem PySem.Spec PyProof.Rows L2 DL
/-! ### what a lot joins -/
section
variable {p : List Nat} {ts : List Str} {r : Nat}
def In (ts : List Str) (v : List Nat) : Prop := ∀ k ∈ v, k < ts.length
theorem parts_conn (u : p.Pairwise (· ≠ ·)) (he : Ends p ts) {v : List Nat} (hv : In ts v) {k : Nat} (hk : k < ts.length) : partsL p ts v k = false ↔ Conn (tiesOf ts v) (ends (ts.getD k Str.empty)).1 (ends (ts.getD k Str.empty)).2 := by
  have et : ts.getD k Str.empty = ts[k] := by rw [List.getD_eq_getElem?_getD, List.getElem?_eq_getElem hk]; rfl
  obtain ⟨m1, m2⟩ := he _ (List.getElem_mem hk)
  rw [← et] at m1 m2
  constructor
  · intro h
    exact marks_conn _ (ties_in he hv) _ _ m1 m2 (Classical.not_not.mp (of_decide_eq_false h))
  · intro h
    exact decide_eq_false fun q => q (conn_marks (ties_in he hv) h)
theorem parts_mono (u : p.Pairwise (· ≠ ·)) (he : Ends p ts) {v w : List Nat} (hv : In ts v) (hw : In ts w) (s : ∀ k ∈ v, k ∈ w) {k : Nat} (hk : k < ts.length) (h : partsL p ts v k = false) : partsL p ts w k = false := by
  refine (parts_conn u he hw hk).mpr (((parts_conn u he hv hk).mp h).mono fun y hy => ?_)
  obtain ⟨i, hi, e⟩ := List.mem_map.mp hy
  exact List.mem_map.mpr ⟨i, s i hi, e⟩
theorem in_snoc {v : List Nat} (hv : In ts v) {k : Nat} (hk : k < ts.length) : In ts (v ++ [k]) := fun j hj => by
  rcases List.mem_append.mp hj with q | q
  · exact hv j q
  · rw [List.mem_singleton.mp q]; exact hk
theorem in_wout {v : List Nat} (hv : In ts v) (o : Nat) : In ts (wout v o) := fun j hj => hv j (wout_mem.mp hj).1
end
/-! ### sums of lengths -/
def ins (a : Nat) : List Nat → List Nat
  | [] => [a]
  | b :: l => if a ≤ b then a :: b :: l else b :: ins a l
/-! ### least trees and one tie -/
end K10
set_option Elab.async false
set_option linter.all false
set_option maxRecDepth 100000
namespace K10
open PySem PySem.Spec PyProof.Rows L2 DL
/-! ### the numbers of trees by early and late elements hang on the counts of lots alone -/
theorem ch_less : ∀ {m k : Nat}, m < k → ch m k = 0
  | 0, k + 1, _ => rfl
  | m + 1, k + 1, h => by
    show ch m k + ch m (k + 1) = 0
    rw [ch_less (by omega), ch_less (by omega)]
section
variable {α : Type}
def wt (X : List α) (κ : α → Nat) (h : α → Nat) (k : Nat) : Nat := ((X.filter fun x => decide (κ x = k)).map h).sum
end
/-! ### lots of ties in another order -/
/-! ### webs -/
section
variable {p : List Nat} {ts : List Str}
theorem web_mat (u : p.Pairwise (· ≠ ·)) (he : Ends p ts) : Mat ts.length (rankOf p ts) := by
  refine ⟨nonFix_self p, fun v w hv hw h => lot_rank u he hv hw (fun k hk => (h k).mp hk) fun k hk => (h k).mpr hk, fun v k hv hk => ?_, fun v w k hv hw s hk h => ?_⟩
  · rw [rank_more u he hv hk]
    split
    · exact .inr rfl
    · exact .inl rfl
  · have e1 := rank_more u he hv hk
    have e2 := rank_more u he hw hk
    have c : partsL p ts v k = false := by
      cases q : partsL p ts v k with
      | false => rfl
      | true => rw [q, if_pos rfl] at e1; omega
    rw [parts_mono u he hv hw s hk c, if_neg Bool.false_ne_true] at e2
    exact e2
def rkS (p : List Nat) (s : List Str) : Nat := nonFix (marksL p (s.map ends)) p
theorem rank_rk {v : List Nat} : rankOf p ts v = rkS p (v.map fun k => ts.getD k Str.empty) := by
  show nonFix (marksL p (tiesOf ts v)) p = nonFix (marksL p ((v.map fun k => ts.getD k Str.empty).map ends)) p
  rw [List.map_map]
  rfl
/-! ### the program's early and late ties -/
end
end K10
set_option Elab.async false
set_option linter.all false
set_option maxRecDepth 100000
namespace K10
open PySem PySem.Spec PyProof.Rows L2 DL
section
variable {P : Program} {w : World} {K : PySem.W.Frag} {mg : Str → Option Value} {base : Heap} {A : Ad}
/-! ### early and late ties, as the program tells them -/
theorem outs_len {v : List Nat} (u : v.Nodup) {n : Nat} (hv : ∀ k ∈ v, k < n) : (outs v n).length + v.length = n := by
  have h := nodup_same (l := outs v n ++ v) (m := List.range n) (List.nodup_append.mpr ⟨(List.nodup_range).filter _, u, fun a ha b hb e => (outs_mem.mp ha).2 (e ▸ hb)⟩) List.nodup_range fun x => by
    rw [List.mem_append, outs_mem, List.mem_range]
    constructor
    · rintro (h | h)
      · exact h.1
      · exact hv x h
    · intro h
      by_cases e : x ∈ v
      · exact .inr e
      · exact .inl ⟨h, e⟩
  rw [List.length_append, List.length_range] at h
  exact h
/-! ### rows of numbers, each a cell -/
structure Rows (μ ν : Mu) (as : List Addr) (rs : List (List Nat)) : Prop where
  len : as.length = rs.length
  at_ : ∀ (i : Nat) (a : Addr) (r : List Nat), as[i]? = some a → rs[i]? = some r → ν a = some (.lst ((r.map Int.ofNat).map D.int))
  new : ∀ a ∈ as, μ a = none
  old : ∀ b, b ∉ as → ν b = μ b
  nod : as.Nodup
def dRows (as : List Addr) : D := .lst (as.map D.adr)
theorem Rows.start (μ : Mu) : Rows μ μ [] [] := ⟨rfl, fun i a r h => by simp at h, fun a h => (List.not_mem_nil h).elim, fun _ _ => rfl, .nil⟩
theorem Rows.has {μ ν : Mu} {as : List Addr} {rs : List (List Nat)} (h : Rows μ ν as rs) {a : Addr} (ha : a ∈ as) : ν a ≠ none := by
  obtain ⟨i, hi, e⟩ := List.getElem_of_mem ha
  have h1 : as[i]? = some a := by rw [List.getElem?_eq_getElem hi, e]
  have h2 : rs[i]? = some (rs[i]'(by rw [← h.len]; exact hi)) := List.getElem?_eq_getElem _
  rw [h.at_ i a _ h1 h2]
  simp
theorem Rows.snoc {μ ν : Mu} {as : List Addr} {rs : List (List Nat)} (h : Rows μ ν as rs) {c : Addr} (nc : ν c = none) (r : List Nat) : Rows μ (put ν c (.lst ((r.map Int.ofNat).map D.int))) (as ++ [c]) (rs ++ [r]) := by
  have cas : c ∉ as := fun z => h.has z nc
  refine ⟨by rw [List.length_append, List.length_append, h.len]; rfl, fun i a r' ha hr => ?_, fun a ha => ?_, fun b hb => ?_, ?_⟩
  · by_cases hi : i < as.length
    · rw [List.getElem?_append_left hi] at ha
      rw [List.getElem?_append_left (by rw [← h.len]; exact hi)] at hr
      have hm := List.mem_of_getElem? ha
      rw [put_ne (fun (z : a = c) => cas (z ▸ hm))]
      exact h.at_ i a r' ha hr
    · have e : i = as.length := by
        have := (List.getElem?_eq_some_iff.mp ha).1
        rw [List.length_append, List.length_singleton] at this
        omega
      subst e
      rw [List.getElem?_append_right (Nat.le_refl _), Nat.sub_self] at ha
      rw [List.getElem?_append_right (by rw [h.len]; exact Nat.le_refl _), h.len, Nat.sub_self] at hr
      have ea : c = a := by simpa using ha
      have er : r = r' := by simpa using hr
      rw [← ea, ← er]
      exact put_same
  · rcases List.mem_append.mp ha with q | q
    · exact h.new a q
    · rw [List.mem_singleton.mp q, ← h.old c cas]
      exact nc
  · have b1 : b ∉ as := fun z => hb (List.mem_append.mpr (.inl z))
    have b2 : b ≠ c := fun z => hb (List.mem_append.mpr (.inr (List.mem_singleton.mpr z)))
    rw [put_ne b2]
    exact h.old b b1
  · exact List.nodup_append.mpr ⟨h.nod, by simp, fun a ha b hb => by
      rw [List.mem_singleton.mp hb]
      exact fun z => cas (z ▸ ha)⟩
theorem Rows.write {μ ν : Mu} {as : List Addr} {rs : List (List Nat)} (h : Rows μ ν as rs) {i : Nat} {a : Addr} (ha : as[i]? = some a) (r : List Nat) : Rows μ (put ν a (.lst ((r.map Int.ofNat).map D.int))) as (rs.set i r) := by
  have hi : i < as.length := (List.getElem?_eq_some_iff.mp ha).1
  refine ⟨by rw [List.length_set]; exact h.len, fun j b r' hb hr => ?_, h.new, fun b hb => ?_, h.nod⟩
  · by_cases e : j = i
    · subst e
      rw [ha] at hb
      cases hb
      rw [List.getElem?_set_self (by rw [← h.len]; exact hi)] at hr
      cases hr
      exact put_same
    · rw [List.getElem?_set_ne (fun z => e z.symm)] at hr
      have ne : b ≠ a := fun z => by
        subst z
        obtain ⟨h1, e1⟩ := List.getElem?_eq_some_iff.mp ha
        obtain ⟨h2, e2⟩ := List.getElem?_eq_some_iff.mp hb
        rcases Nat.lt_or_gt_of_ne e with q | q
        · exact List.pairwise_iff_getElem.mp h.nod j i h2 h1 q (e2.trans e1.symm)
        · exact List.pairwise_iff_getElem.mp h.nod i j h1 h2 q (e1.trans e2.symm)
      rw [put_ne ne]
      exact h.at_ j b r' hb hr
  · rw [put_ne (fun (z : b = a) => hb (z ▸ List.mem_of_getElem? ha))]
    exact h.old b hb
theorem Rows.keep {μ ν : Mu} {as : List Addr} {rs : List (List Nat)} (h : Rows μ ν as rs) : ∀ c o, μ c = some o → ν c = some o := fun c o e => by
  rw [h.old c fun z => by rw [h.new c z] at e; cases e]
  exact e
def zeros (n : Nat) : List Nat := List.replicate n 0
theorem zero_flat (n : Nat) : (List.replicate n [D.int 0]).flatten = ((zeros n).map Int.ofNat).map D.int := by
  unfold zeros
  rw [List.map_replicate, List.map_replicate]
  induction n with
  | zero => rfl
  | succ n ih => rw [List.replicate_succ, List.flatten_cons, ih, List.replicate_succ]; rfl
/-- rows of noughts, one after the other -/
theorem rows_made {gt : GG} {ge : GE} {own : List Nat} {δ : DS} {μ : Mu} {R : KD} {m w : Nat} (hm : m ≤ 100)
    (hx : ∀ (i : Nat) (ν : Mu) (Y : KD), (∀ c, ν c = none → Y (.adr c) (put ν c (.lst (((zeros w).map Int.ofNat).map D.int)))) → gt (.int (i : Nat)) (wiped δ own) fun δ2 => ge δ2 ν Y)
    (hr : ∀ as ν, Rows μ ν as (List.replicate m (zeros w)) → R (dRows as) ν) :
    LcB gt gYes ge own δ R ((List.range m).map fun i => D.int (i : Nat)) μ := by
  refine lcb_eff (fun i ys ν => ∃ as, ys = as.map D.adr ∧ Rows μ ν as (List.replicate i (zeros w))) ?_ ?_ ?_ ?_ ?_
  · rw [List.length_map, List.length_range, sizeLine_eq]
    omega
  · exact ⟨[], rfl, Rows.start μ⟩
  · rintro i ys ν ⟨as, rfl, h⟩
    rw [List.length_map, h.len, List.length_replicate]
    exact Nat.le_refl _
  · rintro i it hi b ys ν N Y nb ⟨as, rfl, h⟩ hN hY
    obtain ⟨hi, rfl⟩ := range_at hi
    show gt _ (wiped δ own) fun δ2 => ge δ2 (put ν b (.lst (as.map D.adr))) Y
    refine hx i _ Y fun c nc => ?_
    have ne : c ≠ b := fun z => by rw [z, put_same] at nc; cases nc
    rw [put_ne ne] at nc
    rw [put_comm ne.symm]
    refine hY (.adr c) _ (by rw [put_ne ne.symm]; exact nb) ⟨as ++ [c], by rw [List.map_append]; rfl, ?_⟩
    rw [List.replicate_succ']
    exact h.snoc nc _
  · rintro ys ν ⟨as, rfl, h⟩
    rw [List.length_map, List.length_range] at h
    exact hr as ν h
def g_rows_of_noughts (C : Addr) : GC := fun ds μ R => ∃ (p : List Nat) (ts : List Str) (r : Nat), ds = [dWeb C p ts] ∧ OkWeb p ts ∧ r = rankOf p ts (List.range ts.length) ∧ r ≤ ts.length ∧
  ∀ as ν, Rows μ ν as (List.replicate (r + 1) (zeros (ts.length - r + 1))) → R (dRows as) ν
def N49 : List Str := ["web", "rank_of_all", "spare_of_all", "_"]
theorem sc49 : FnScope N49 ["web"] (defScope (top 49)) := ⟨rfl, rfl, rfl, by decide +kernel, rfl, by decide +kernel, by decide +kernel⟩
theorem ok_rows_of_noughts (T : Tx K mg A) : FnOk P w K mg base CX0 4 A.rows_of_noughts A.fd_rows_of_noughts ["web"] (toSp K (g_rows_of_noughts A.Web)) := by
  refine okD T.F_rows_of_noughts sc49 (fun ds μ R h => ?_) ⟨_, fun cdv A0 outer s H E hr =>
    (dss_cons (ds_set sc49.nd (i := 1) rfl (by first | exact Or.inl rfl | exact Or.inr rfl) (de_call ((ok_full_rank T).mono (by decide)) hr (by rfl) T.g_full_rank T.F_full_rank.kp T.b_full_rank (da_cons (dv 0) da_nil)))
      (dss_cons (ds_set sc49.nd (i := 2) rfl (by first | exact Or.inl rfl | exact Or.inr rfl) (de_op op_sub sim_minus (de_callB cr_len sim_len (by rfl) T.z_len boot_len (da_cons (de_fld T.k_Web T.n_ties (dv 0)) da_nil)) (dv 1)))
      (dss_one (ds_ret (de_lc (own := [("_", 3)]) (by rfl) sc49.nd (di_range (by rfl) T.z_range (da_cons (de_op op_plus sim_plus (dv 1) de_int) da_nil)) (blkOk_by (N := N49) (own := [("_", 3)]) (sc := defScope (top 49)) (by decide +kernel)) (fun _ _ _ _ _ => (pg_name (i := 3) sc49.nd rfl (by first | exact Or.inl rfl | exact Or.inr rfl))) (sim_nm (i := 3)) (fun _ _ _ _ _ => dts_nil) (fun _ _ _ _ _ => (de_op op_rep sim_repC (de_lst (da_cons de_int da_nil)) (de_op op_plus sim_plus (dv 2) de_int)))))))), fun ds μ R h => ?_⟩
  · obtain ⟨p, ts, r, rfl, _⟩ := h
    rfl
  · obtain ⟨p, ts, r, rfl, ok, hr, rl, h⟩ := h
    have few := ok.many
    have lt : (ts.map D.str).length = ts.length := List.length_map _
    refine ⟨p, ts, rfl, ok, ?_⟩
    rw [← hr]
    refine ⟨rfl, _, rfl, ?_⟩
    refine ⟨⟨by omega, by omega⟩, ?_⟩
    have en : ((r : Int) + 1).toNat = r + 1 := by omega
    show LcB _ _ _ _ _ _ _ _
    rw [en]
    refine rows_made (w := ts.length - r + 1) (by omega) ?_ ?_
    · intro i ν Y hY
      refine ⟨by show 1 ≤ sizeLine; decide, ?_⟩
      refine ⟨⟨by rw [lt]; omega, by rw [lt]; omega, by show 1 ≤ 1000; omega⟩, fun c nc => ?_⟩
      have ew : (((ts.map D.str).length : Int) - (r : Int) + 1).toNat = ts.length - r + 1 := by rw [lt]; omega
      rw [ew, zero_flat]
      exact hY c nc
    · intro as ν hR
      exact h as ν hR
def g_tuple_of_rows : GC := fun ds ν R => ∃ (μ : Mu) (as : List Addr) (rs : List (List Nat)), ds = [dRows as] ∧ Rows μ ν as rs ∧ rs.length ≤ 1000 ∧ R (.tup (rs.map dLot)) ν
def N50 : List Str := ["rows", "row"]
theorem sc50 : FnScope N50 ["rows"] (defScope (top 50)) := ⟨rfl, rfl, rfl, by decide +kernel, rfl, by decide +kernel, by decide +kernel⟩
/-! ### the rows of numbers of trees -/
def grid (a b : Nat) (f : Nat → Nat → Nat) : List (List Nat) := (List.range a).map fun i => (List.range b).map fun j => f i j
theorem grid_get {a b : Nat} {f : Nat → Nat → Nat} {i : Nat} (hi : i < a) : (grid a b f)[i]? = some ((List.range b).map fun j => f i j) := by
  unfold grid
  rw [List.getElem?_map, List.getElem?_range hi]
  rfl
theorem row_get {b : Nat} {f : Nat → Nat} {j : Nat} (hj : j < b) : ((((List.range b).map f).map Int.ofNat).map D.int)[j]? = some (.int (f j : Nat)) := by
  rw [List.getElem?_map, List.getElem?_map, List.getElem?_map, List.getElem?_range hj]
  rfl
theorem grid_len {a b : Nat} {f : Nat → Nat → Nat} : (grid a b f).length = a := by unfold grid; rw [List.length_map, List.length_range]
theorem grid_zero {a b : Nat} {f : Nat → Nat → Nat} (h : ∀ i j, f i j = 0) : List.replicate a (zeros b) = grid a b f := by
  unfold grid zeros
  apply List.ext_getElem?
  intro i
  rw [List.getElem?_map, List.getElem?_replicate]
  by_cases hi : i < a
  · rw [if_pos hi, List.getElem?_range hi]
    show some _ = some _
    congr 1
    apply List.ext_getElem?
    intro j
    rw [List.getElem?_map, List.getElem?_replicate]
    by_cases hj : j < b
    · rw [if_pos hj, List.getElem?_range hj]
      show some 0 = some (f i j)
      rw [h]
    · rw [if_neg hj, List.getElem?_eq_none (by simp; omega)]
      rfl
  · rw [if_neg hi, List.getElem?_eq_none (by simp; omega)]
    rfl
theorem row_set {b j0 : Nat} {f g : Nat → Nat} (hj : j0 < b) (h0 : g j0 = f j0 + 1) (h1 : ∀ j, j ≠ j0 → g j = f j) : ((List.range b).map f).set j0 (f j0 + 1) = (List.range b).map g := by
  apply List.ext_getElem?
  intro j
  rw [List.getElem?_set]
  by_cases e : j0 = j
  · subst e
    rw [if_pos rfl, if_pos (by rw [List.length_map, List.length_range]; exact hj), List.getElem?_map, List.getElem?_range hj]
    show some _ = some _
    rw [h0]
  · rw [if_neg e, List.getElem?_map, List.getElem?_map]
    by_cases hb : j < b
    · rw [List.getElem?_range hb]
      show some _ = some _
      rw [h1 j fun z => e z.symm]
    · rw [List.getElem?_eq_none (by simp; omega)]
      rfl
theorem grid_set {a b i0 j0 : Nat} {f g : Nat → Nat → Nat} (hi : i0 < a) (hj : j0 < b) (h0 : g i0 j0 = f i0 j0 + 1) (h1 : ∀ i j, ¬ (i = i0 ∧ j = j0) → g i j = f i j) :
    (grid a b f).set i0 (((List.range b).map fun j => f i0 j).set j0 (f i0 j0 + 1)) = grid a b g := by
  rw [row_set (f := fun j => f i0 j) (g := fun j => g i0 j) hj h0 fun j hj => h1 i0 j fun z => hj z.2]
  unfold grid
  apply List.ext_getElem?
  intro i
  rw [List.getElem?_set]
  by_cases e : i0 = i
  · subst e
    rw [if_pos rfl, if_pos (by rw [List.length_map, List.length_range]; exact hi), List.getElem?_map, List.getElem?_range hi]
    rfl
  · rw [if_neg e, List.getElem?_map, List.getElem?_map]
    by_cases hb : i < a
    · rw [List.getElem?_range hb]
      show some _ = some _
      congr 1
      exact List.map_congr_left fun j _ => (h1 i j fun z => e z.1.symm).symm
    · rw [List.getElem?_eq_none (by simp; omega)]
      rfl
end
end K10
set_option Elab.async false
set_option linter.all false
set_option maxRecDepth 100000
namespace K10
open DL
/-! ### sums over 0 .. m - 1 -/
def S (f : Nat → Int) : Nat → Int
  | 0 => 0
  | m + 1 => S f m + f m
theorem S_congr {f g : Nat → Int} : ∀ {m : Nat}, (∀ k, k < m → f k = g k) → S f m = S g m
  | 0, _ => rfl
  | m + 1, h => by rw [S, S, S_congr fun k hk => h k (Nat.lt_succ_of_lt hk), h m (Nat.lt_succ_self m)]
/-! ### signs, choosing, the shifted row -/
def sgn (k : Nat) : Int := if k % 2 = 0 then 1 else -1
/-- a row of numbers of powers of x - 1, as one of powers of x -/
def shS (f : Nat → Int) (m l : Nat) : Int := S (fun p => sgn (p + l) * f p * (ch p l : Nat)) m
/-- both sides shifted -/
def tabS (c : Nat → Nat → Int) (m n i j : Nat) : Int := shS (fun p => shS (c p) n j) m i
/-! ### the shifted table of what trees give -/
theorem shS_congr {f g : Nat → Int} {m l : Nat} (h : ∀ p, p < m → f p = g p) : shS f m l = shS g m l := S_congr fun p hp => by rw [h p hp]
/-! ### the greatest common divisor by turns -/
end K10
set_option Elab.async false
set_option linter.all false
set_option maxRecDepth 100000
namespace K10
open PySem PySem.Spec PyProof.Rows L2 DL
section
variable {P : Program} {w : World} {K : PySem.W.Frag} {mg : Str → Option Value} {base : Heap} {A : Ad}
/-! ### counts of lots -/
def dRowI (r : List Int) : D := .lst (r.map D.int)
def dGridI (rs : List (List Int)) : D := .lst (rs.map dRowI)
def natI (r : List Nat) : List Int := r.map Int.ofNat
theorem rows_frz {μ ν : Mu} {as : List Addr} {rs : List (List Nat)} (h : Rows μ ν as rs) : Into (dRows as) ν (dGridI (rs.map natI)) μ := by
  have a2 : A2 (fun a r => ν a = some (.lst r)) as (rs.map fun r => (natI r).map D.int) := by
    have key : ∀ (as : List Addr) (rs : List (List Nat)), as.length = rs.length → (∀ (i : Nat) (a : Addr) (r : List Nat), as[i]? = some a → rs[i]? = some r → ν a = some (.lst ((r.map Int.ofNat).map D.int))) → A2 (fun a r => ν a = some (.lst r)) as (rs.map fun r => (natI r).map D.int) := by
      intro as
      induction as with
      | nil =>
        intro rs l _
        cases rs with
        | nil => trivial
        | cons _ _ => simp at l
      | cons a as ih =>
        intro rs l g
        cases rs with
        | nil => simp at l
        | cons r rs => exact ⟨g 0 a r rfl rfl, ih rs (by simpa using l) fun i b q hb hq => g (i + 1) b q (by simpa using hb) (by simpa using hq)⟩
    exact key as rs h.len h.at_
  have one := Into.frzAll as _ [] ν a2 h.nod
  rw [List.nil_append, List.nil_append, List.map_map] at one
  have e : dels ν as = μ := by
    funext b
    by_cases hb : b ∈ as
    · rw [h.new b hb]
      exact (dels_in as ν b hb).elim id False.elim
    · rw [dels_out as ν b hb]; exact h.old b hb
  rw [e] at one
  have e2 : (dGridI (rs.map natI)) = .lst (rs.map (D.lst ∘ fun r => (natI r).map D.int)) := by
    unfold dGridI
    rw [List.map_map]
    rfl
  rw [e2]
  exact one
def lotsOf (v : List Nat) : List (List Nat) := v.foldl (fun L i => L ++ L.map (· ++ [i])) [[]]
theorem lotsOf_snoc (v : List Nat) (k : Nat) : lotsOf (v ++ [k]) = lotsOf v ++ (lotsOf v).map (· ++ [k]) := by
  unfold lotsOf
  rw [List.foldl_append]
  rfl
theorem lotsOf_few : ∀ v : List Nat, (lotsOf v).length = 2 ^ v.length := by
  refine snoc_ind (P := fun v => (lotsOf v).length = 2 ^ v.length) rfl ?_
  intro w k ih
  rw [lotsOf_snoc, List.length_append, List.length_map, ih, List.length_append, List.length_singleton, Nat.pow_succ]
  omega
theorem lotsOf_len : ∀ v : List Nat, ∀ u ∈ lotsOf v, u.length ≤ v.length := by
  refine snoc_ind (P := fun v => ∀ u ∈ lotsOf v, u.length ≤ v.length) (fun u hu => by rw [List.mem_singleton.mp hu]; exact Nat.le_refl _) ?_
  intro w k ih u hu
  rw [lotsOf_snoc] at hu
  rw [List.length_append, List.length_singleton]
  rcases List.mem_append.mp hu with h | h
  · exact Nat.le_succ_of_le (ih u h)
  · obtain ⟨x, hx, rfl⟩ := List.mem_map.mp h
    have := ih x hx
    rw [List.length_append, List.length_singleton]
    omega
theorem lotsOf_range : ∀ n : Nat, lotsOf (List.range n) = lotsL n
  | 0 => rfl
  | n + 1 => by
    rw [List.range_succ, lotsOf_snoc, lotsOf_range n]
    rfl
def g_lots_within : GC := fun ds μ R => ∃ v : List Nat, ds = [dLot v] ∧ v.length ≤ 11 ∧ R (.lst ((lotsOf v).map dLot)) μ
def g_all_lots (C : Addr) : GC := fun ds μ R => ∃ (p : List Nat) (ts : List Str), ds = [dWeb C p ts] ∧ OkWeb p ts ∧ R (.lst ((lotsL ts.length).map dLot)) μ
def N37 : List Str := ["lot", "lots", "index", "shorter"]
theorem sc37 : FnScope N37 ["lot"] (defScope (top 37)) := ⟨rfl, rfl, rfl, by decide +kernel, rfl, by decide +kernel, by decide +kernel⟩
theorem ok_lots_within (T : Tx K mg A) : FnOk P w K mg base CX0 1 A.lots_within A.fd_lots_within ["lot"] (toSp K (g_lots_within)) := by
  refine okD T.F_lots_within sc37 (fun ds μ R h => ?_) ⟨_, fun cdv A0 outer s H E hr =>
    (dss_cons (ds_set sc37.nd (i := 1) rfl (by first | exact Or.inl rfl | exact Or.inr rfl) (de_lst (da_cons (de_tup da_nil) da_nil)))
      (dss_cons (ds_for PassesOwn.never rfl (di_both (dv 0)) (pg_name (i := 2) sc37.nd rfl (by first | exact Or.inl rfl | exact Or.inr rfl)) (sim_nm (i := 2))
      (dss_one (ds_set sc37.nd (i := 1) rfl (by first | exact Or.inl rfl | exact Or.inr rfl) (de_op op_plus sim_plus (dv 1) (de_lc (own := [("shorter", 3)]) (by rfl) sc37.nd (di_both (dv 1)) (blkOk_by (N := N37) (own := [("shorter", 3)]) (sc := defScope (top 37)) (by decide +kernel)) (fun _ _ _ _ _ => (pg_name (i := 3) sc37.nd rfl (by first | exact Or.inl rfl | exact Or.inr rfl))) (sim_nm (i := 3)) (fun _ _ _ _ _ => dts_nil) (fun _ _ _ _ _ => (de_op op_plus sim_plus (dv 3) (de_tup (da_cons (dv 2) da_nil)))))))))
      (dss_one (ds_ret (dv 1))))), fun ds μ R h => ?_⟩
  · obtain ⟨v, rfl, _⟩ := h
    rfl
  · obtain ⟨v, rfl, few0, h⟩ := h
    refine ⟨by show 0 ≤ sizeLine; decide, by show 1 ≤ sizeLine; decide, ?_⟩
    refine ⟨fun i δ' μ' => μ' = μ ∧ ∃ o2 o3, δ' = [some (dLot v), some (.lst ((lotsOf (v.take i)).map dLot)), o2, o3], ⟨rfl, none, none, rfl⟩, ?_, ?_⟩
    · rintro i x δ' μ' hx ⟨rfl, o2, o3, rfl⟩
      obtain ⟨k, hk, rfl⟩ := lot_at hx
      have hi : i < v.length := (List.getElem?_eq_some_iff.mp hk).1
      have lk : (v.take i).length = i := by rw [List.length_take]; omega
      have few : (lotsOf (v.take i)).length ≤ 2048 := by
        rw [lotsOf_few, lk]
        exact pow_few (by omega)
      show LcB _ _ _ _ _ _ _ _
      refine lcb_map (addI k) ?_ ?_ ?_
      · rw [List.length_map, sizeLine_eq]
        omega
      · intro x hx μ2 Y _ hy
        obtain ⟨u, hu, rfl⟩ := List.mem_map.mp hx
        have u2 := lotsOf_len _ u hu
        refine ⟨by show 1 ≤ sizeLine; decide, ?_, hy⟩
        show ((u.map Int.ofNat).map D.int).length + 1 ≤ sizeLine
        rw [List.length_map, List.length_map, sizeLine_eq]
        omega
      · rw [addI_map]
        refine ⟨by rw [List.length_map, List.length_map, List.length_map, sizeLine_eq]; omega, rfl, some (.int (k : Nat)), o3, ?_⟩
        show _ = [some (dLot v), some (.lst ((lotsOf (v.take (i + 1))).map dLot)), some (.int (k : Nat)), o3]
        rw [take_succ_get hk, lotsOf_snoc, List.map_append]
        rfl
    · rintro δ' μ' ⟨rfl, o2, o3, rfl⟩
      have en : ((v.map Int.ofNat).map D.int).length = v.length := by simp
      rw [en, List.take_length]
      exact h
def N38 : List Str := ["web"]
theorem sc38 : FnScope N38 ["web"] (defScope (top 38)) := ⟨rfl, rfl, rfl, by decide +kernel, rfl, by decide +kernel, by decide +kernel⟩
theorem ok_all_lots (T : Tx K mg A) : FnOk P w K mg base CX0 2 A.all_lots A.fd_all_lots ["web"] (toSp K (g_all_lots A.Web)) := by
  refine okD T.F_all_lots sc38 (fun ds μ R h => ?_) ⟨_, fun cdv A0 outer s H E hr =>
    (dss_one (ds_ret (de_call ((ok_lots_within T).mono (by decide)) hr (by rfl) T.g_lots_within T.F_lots_within.kp T.b_lots_within (da_cons (de_call ((ok_lot_of_all T).mono (by decide)) hr (by rfl) T.g_lot_of_all T.F_lot_of_all.kp T.b_lot_of_all (da_cons (dv 0) da_nil)) da_nil)))), fun ds μ R h => ?_⟩
  · obtain ⟨p, ts, rfl, _⟩ := h
    rfl
  · obtain ⟨p, ts, rfl, ok, h⟩ := h
    refine ⟨p, ts, rfl, ok, ?_⟩
    refine ⟨List.range ts.length, rfl, by rw [List.length_range]; exact ok.many, ?_⟩
    rw [lotsOf_range]
    exact h
theorem Mat.more {n : Nat} {ρ : List Nat → Nat} (M : Mat n ρ) (v : List Nat) (hv : Lt n v) : ∀ w : List Nat, Lt n w → ρ (v ++ w) ≤ ρ v + w.length := by
  refine snoc_ind (P := fun w => Lt n w → ρ (v ++ w) ≤ ρ v + w.length) (fun _ => by rw [List.append_nil]; exact Nat.le_refl _) ?_
  intro w k ih hw
  have h1 := ih fun j hj => hw j (List.mem_append.mpr (.inl hj))
  have h2 := M.le1 (v := v ++ w) (fun j hj => (List.mem_append.mp hj).elim (hv j) fun q => hw j (List.mem_append.mpr (.inl q))) (hw k (List.mem_append.mpr (.inr (List.mem_singleton.mpr rfl))))
  rw [← List.append_assoc, List.length_append, List.length_singleton]
  omega
/-- no lot has more ties to spare than all ties have -/
theorem mat_spare {n : Nat} {ρ : List Nat → Nat} (M : Mat n ρ) {v : List Nat} (hv : Lt n v) (nd : v.Nodup) : v.length + full ρ n ≤ ρ v + n := by
  have h := M.more v hv (outs v n) fun k hk => (outs_mem.mp hk).1
  have e : ρ (v ++ outs v n) = full ρ n := M.mem _ _ (fun k hk => (List.mem_append.mp hk).elim (hv k) fun q => (outs_mem.mp q).1) (lt_range n) fun k => by
    rw [List.mem_append, outs_mem, List.mem_range]
    constructor
    · rintro (q | q)
      · exact hv k q
      · exact q.1
    · intro q
      by_cases e : k ∈ v
      · exact .inl e
      · exact .inr ⟨q, e⟩
  have l := outs_len nd hv
  rw [e] at h
  omega
def cntOf (p : List Nat) (ts : List Str) (L : List (List Nat)) (a b : Nat) : Nat := (L.filter fun v => decide (a + rankOf p ts v = rankOf p ts (List.range ts.length) ∧ v.length = rankOf p ts v + b)).length
def cntT (p : List Nat) (ts : List Str) (L : List (List Nat)) : List (List Nat) := grid (rankOf p ts (List.range ts.length) + 1) (ts.length - rankOf p ts (List.range ts.length) + 1) (cntOf p ts L)
theorem cntT_none (p : List Nat) (ts : List Str) (L : List (List Nat)) : List.replicate (rankOf p ts (List.range ts.length) + 1) (zeros (ts.length - rankOf p ts (List.range ts.length) + 1)) = cntT p ts (L.take 0) := grid_zero fun i j => by
  unfold cntOf
  rw [List.take_zero]
  rfl
theorem cntOf_take {p : List Nat} {ts : List Str} {L : List (List Nat)} {i : Nat} {v : List Nat} (h : L[i]? = some v) (a b : Nat) :
    cntOf p ts (L.take (i + 1)) a b = cntOf p ts (L.take i) a b + if (a + rankOf p ts v = rankOf p ts (List.range ts.length) ∧ v.length = rankOf p ts v + b) then 1 else 0 := by
  unfold cntOf
  rw [take_succ_get h, List.filter_append, List.length_append]
  congr 1
  rw [List.filter_cons]
  by_cases e : a + rankOf p ts v = rankOf p ts (List.range ts.length) ∧ v.length = rankOf p ts v + b
  · rw [if_pos e, if_pos (decide_eq_true e)]
    rfl
  · rw [if_neg e, if_neg (by rw [decide_eq_true_eq]; exact e)]
    rfl
/-- one more lot in the rows -/
theorem cntT_more {p : List Nat} {ts : List Str} (u : p.Pairwise (· ≠ ·)) (he : Ends p ts) {L : List (List Nat)} {i : Nat} {v : List Nat} (h : L[i]? = some v) (hv : Lt ts.length v) (nd : v.Nodup) :
    rankOf p ts v ≤ rankOf p ts (List.range ts.length) ∧ rankOf p ts v ≤ v.length ∧
    rankOf p ts (List.range ts.length) - rankOf p ts v < rankOf p ts (List.range ts.length) + 1 ∧ v.length - rankOf p ts v < ts.length - rankOf p ts (List.range ts.length) + 1 ∧
    (cntT p ts (L.take i)).set (rankOf p ts (List.range ts.length) - rankOf p ts v) (((List.range (ts.length - rankOf p ts (List.range ts.length) + 1)).map fun j => cntOf p ts (L.take i) (rankOf p ts (List.range ts.length) - rankOf p ts v) j).set (v.length - rankOf p ts v) (cntOf p ts (L.take i) (rankOf p ts (List.range ts.length) - rankOf p ts v) (v.length - rankOf p ts v) + 1)) = cntT p ts (L.take (i + 1)) := by
  have M := web_mat u he
  have h1 : rankOf p ts v ≤ rankOf p ts (List.range ts.length) := M.full hv
  have h2 := M.len v hv
  have h3 : v.length + rankOf p ts (List.range ts.length) ≤ rankOf p ts v + ts.length := mat_spare M hv nd
  have h4 : rankOf p ts (List.range ts.length) ≤ (List.range ts.length).length := M.len _ (lt_range _)
  rw [List.length_range] at h4
  refine ⟨h1, h2, by omega, by omega, grid_set (by omega) (by omega) ?_ fun a b hab => ?_⟩
  · rw [cntOf_take h, if_pos ⟨by omega, by omega⟩]
  · rw [cntOf_take h, if_neg (fun z => hab ⟨by omega, by omega⟩), Nat.add_zero]
theorem lots_nd {n : Nat} {v : List Nat} (h : v ∈ lotsL n) : v.Nodup := (lots_in n v h).2.2.imp fun h => Nat.ne_of_lt h
theorem grid_web {p : List Nat} {ts : List Str} (u : p.Pairwise (· ≠ ·)) (he : Ends p ts) : rankOf p ts (List.range ts.length) ≤ ts.length := by
  have h4 := (web_mat u he).len _ (lt_range ts.length)
  rw [List.length_range] at h4
  exact h4
def g_counts_of_lots (C : Addr) : GC := fun ds μ R => ∃ (p : List Nat) (ts : List Str), ds = [dWeb C p ts] ∧ OkWeb p ts ∧ p.Pairwise (· ≠ ·) ∧ R (dGridI ((cntT p ts (lotsL ts.length)).map natI)) μ
def N51 : List Str := ["web", "rank_of_all", "rows", "lot", "rank_of_lot"]
theorem sc51 : FnScope N51 ["web"] (defScope (top 51)) := ⟨rfl, rfl, rfl, by decide +kernel, rfl, by decide +kernel, by decide +kernel⟩
theorem ok_counts_of_lots (T : Tx K mg A) : FnOk P w K mg base CX0 7 A.counts_of_lots A.fd_counts_of_lots ["web"] (toSp K (g_counts_of_lots A.Web)) := by
  refine okDF T.F_counts_of_lots sc51 (fun ds μ R h => ?_) ⟨_, fun cdv A0 outer s H E hr =>
    (dss_cons (ds_set sc51.nd (i := 1) rfl (by first | exact Or.inl rfl | exact Or.inr rfl) (de_call ((ok_full_rank T).mono (by decide)) hr (by rfl) T.g_full_rank T.F_full_rank.kp T.b_full_rank (da_cons (dv 0) da_nil)))
      (dss_cons (ds_set sc51.nd (i := 2) rfl (by first | exact Or.inl rfl | exact Or.inr rfl) (de_call ((ok_rows_of_noughts T).mono (by decide)) hr (by rfl) T.g_rows_of_noughts T.F_rows_of_noughts.kp T.b_rows_of_noughts (da_cons (dv 0) da_nil)))
      (dss_cons (ds_for PassesOwn.never rfl (di_both (de_call ((ok_all_lots T).mono (by decide)) hr (by rfl) T.g_all_lots T.F_all_lots.kp T.b_all_lots (da_cons (dv 0) da_nil))) (pg_name (i := 3) sc51.nd rfl (by first | exact Or.inl rfl | exact Or.inr rfl)) (sim_nm (i := 3))
      (dss_cons (ds_set sc51.nd (i := 4) rfl (by first | exact Or.inl rfl | exact Or.inr rfl) (de_call ((ok_rank_of T).mono (by decide)) hr (by rfl) T.g_rank_of T.F_rank_of.kp T.b_rank_of (da_cons (dv 0) (da_cons (dv 3) da_nil))))
      (dss_one (ds_augS (de_ix ix_any sim_ix (dv 2) (de_op op_sub sim_minus (dv 1) (dv 4)) (fun _ _ => rfl)) (de_op op_sub sim_minus (de_callB cr_len sim_len (by rfl) T.z_len boot_len (da_cons (dv 3) da_nil)) (dv 4)) de_int ip_add sim_ipadd))))
      (dss_one (ds_ret (dv 2)))))), fun ds μ R h => ?_⟩
  · obtain ⟨p, ts, rfl, _⟩ := h
    rfl
  · obtain ⟨p, ts, rfl, ok, un, h⟩ := h
    have few := ok.many
    have rl := grid_web un ok.ends
    refine ⟨p, ts, rfl, ok, ?_⟩
    refine ⟨p, ts, _, rfl, ok, rfl, rl, fun as ν hR => ?_⟩
    refine ⟨p, ts, rfl, ok, ?_⟩
    rw [cntT_none p ts (lotsL ts.length)] at hR
    refine ⟨fun i δ' ν' => Rows μ ν' as (cntT p ts ((lotsL ts.length).take i)) ∧ ∃ o3 o4, δ' = [some (dWeb A.Web p ts), some (.int (rankOf p ts (List.range ts.length) : Nat)), some (dRows as), o3, o4], ⟨hR, none, none, rfl⟩, ?_, ?_⟩
    · rintro i x δ' ν' hi ⟨hR, o3, o4, rfl⟩
      rw [List.getElem?_map] at hi
      obtain ⟨v, hv, rfl⟩ : ∃ v, (lotsL ts.length)[i]? = some v ∧ dLot v = x := by
        cases e : (lotsL ts.length)[i]? with
        | none => rw [e] at hi; cases hi
        | some t => rw [e] at hi; exact ⟨t, rfl, Option.some.inj hi⟩
      have vm := List.mem_of_getElem? hv
      have vl := lots_lt vm
      obtain ⟨b1, b2, b3, b4, e3⟩ := cntT_more un ok.ends hv vl (lots_nd vm)
      have ha : as[rankOf p ts (List.range ts.length) - rankOf p ts v]? = some (as[rankOf p ts (List.range ts.length) - rankOf p ts v]'(by rw [hR.len]; unfold cntT; rw [grid_len]; exact b3)) := List.getElem?_eq_getElem _
      generalize as[rankOf p ts (List.range ts.length) - rankOf p ts v]'(by rw [hR.len]; unfold cntT; rw [grid_len]; exact b3) = a at ha
      have hc := hR.at_ _ a _ ha (grid_get b3)
      have lv : ((v.map Int.ofNat).map D.int).length = v.length := by rw [List.length_map, List.length_map]
      refine ⟨p, ts, v, rfl, ok, vl, ?_⟩
      have e1 : ((rankOf p ts (List.range ts.length) : Nat) : Int) - ((rankOf p ts v : Nat) : Int) = ((rankOf p ts (List.range ts.length) - rankOf p ts v : Nat) : Int) := by omega
      have e2 : (((v.map Int.ofNat).map D.int).length : Int) - ((rankOf p ts v : Nat) : Int) = ((v.length - rankOf p ts v : Nat) : Int) := by rw [lv]; omega
      refine (e1 ▸ atK_nat (d := .adr a) (by rw [List.getElem?_map, ha]; rfl) ?_ : atK _ _ _)
      refine ⟨a, v.length - rankOf p ts v, _, .int (cntOf p ts ((lotsL ts.length).take i) (rankOf p ts (List.range ts.length) - rankOf p ts v) (v.length - rankOf p ts v) : Nat), rfl, congrArg D.int e2, hc, row_get b4, ?_⟩
      refine ⟨_, v.length - rankOf p ts v, hc, ?_, ?_⟩
      · unfold ixN
        rw [if_pos (by omega), if_pos (by rw [List.length_map, List.length_map, List.length_map, List.length_range]; omega)]
        simp
      · refine ⟨?_, some (dLot v), some (.int (rankOf p ts v : Nat)), rfl⟩
        have hw := hR.write ha (((List.range (ts.length - rankOf p ts (List.range ts.length) + 1)).map fun j => cntOf p ts ((lotsL ts.length).take i) (rankOf p ts (List.range ts.length) - rankOf p ts v) j).set (v.length - rankOf p ts v) (cntOf p ts ((lotsL ts.length).take i) (rankOf p ts (List.range ts.length) - rankOf p ts v) (v.length - rankOf p ts v) + 1))
        rw [e3, List.map_set, List.map_set] at hw
        exact hw
    · rintro δ' ν' ⟨hR, o3, o4, rfl⟩
      rw [List.length_map, List.take_length] at hR
      exact ⟨_, μ, rows_frz hR, h⟩
/-! ### the table -/
theorem ch_small : ∀ a : Nat, a < 13 → ∀ b : Nat, ch a b < 2000 := by
  intro a ha b
  by_cases h : b < 13
  · have : ∀ a : Nat, a < 13 → ∀ b : Nat, b < 13 → ch a b < 2000 := by decide +kernel
    exact this a ha b h
  · rw [ch_less (by omega)]; decide
theorem comb_ch : ∀ a : Nat, a < 13 → ∀ b : Nat, b < 13 → PySem.W.mcComb (a : Int) (b : Int) = ((ch a b : Nat) : Int) := by decide +kernel
def shL (row : List Int) : List Int := (List.range row.length).map fun l => shS (fun q => row.getD q 0) row.length l
/-- the row of numbers behind some powers, and some lower ones of the next -/
def shA (row : List Int) (i k l : Nat) : Int := S (fun q => sgn (q + l) * row.getD q 0 * (ch q l : Nat)) (if l < k then i + 1 else i)
def shR (row : List Int) (i k : Nat) : List Int := (List.range row.length).map fun l => shA row i k l
theorem shR_start (row : List Int) : shR row 0 0 = List.replicate row.length 0 := by
  unfold shR shA
  apply List.ext_getElem?
  intro l
  by_cases h : l < row.length
  · rw [List.getElem?_map, List.getElem?_range h, List.getElem?_replicate, if_pos h]
    rfl
  · rw [List.getElem?_eq_none (by simp; omega), List.getElem?_eq_none (by simp; omega)]
theorem shR_next (row : List Int) (i : Nat) : shR row i (i + 1) = shR row (i + 1) 0 := by
  unfold shR
  refine List.map_congr_left fun l _ => ?_
  unfold shA
  rw [if_neg (Nat.not_lt_zero _)]
  split
  · rfl
  · rename_i h
    rw [S, ch_less (show i < l by omega)]
    simp
theorem shR_end (row : List Int) : shR row row.length 0 = shL row := by
  unfold shR shL
  refine List.map_congr_left fun l _ => ?_
  unfold shA
  rw [if_neg (Nat.not_lt_zero _)]
  rfl
theorem shR_set {row : List Int} {i k : Nat} (hk : k < row.length) : (shR row i k).set k (shA row i k k + sgn (i + k) * row.getD i 0 * (ch i k : Nat)) = shR row i (k + 1) := by
  unfold shR
  apply List.ext_getElem?
  intro l
  by_cases h : l < row.length
  · rw [List.getElem?_set, List.getElem?_map, List.getElem?_map, List.getElem?_range h, List.length_map, List.length_range]
    by_cases e : k = l
    · subst e
      rw [if_pos rfl, if_pos hk]
      unfold shA
      rw [if_neg (Nat.lt_irrefl _)]
      show some _ = some (S _ (if k < k + 1 then i + 1 else i))
      rw [if_pos (Nat.lt_succ_self _), S]
    · rw [if_neg e]
      unfold shA
      show some (S _ (if l < k then i + 1 else i)) = some (S _ (if l < k + 1 then i + 1 else i))
      by_cases h2 : l < k
      · rw [if_pos h2, if_pos (by omega)]
      · rw [if_neg h2, if_neg (by omega)]
  · rw [List.getElem?_eq_none (by simp; omega), List.getElem?_eq_none (by simp; omega)]
theorem shR_at {row : List Int} {i k : Nat} (hk : k < row.length) : ((shR row i k).map D.int)[k]? = some (.int (shA row i k k)) := by
  unfold shR
  rw [List.getElem?_map, List.getElem?_map, List.getElem?_range hk]
  rfl
def g_shifted : GC := fun ds μ R => ∃ row : List Int, ds = [dRowI row] ∧ row.length ≤ 12 ∧ R (dRowI (shL row)) μ
def N52 : List Str := ["row", "longer", "power", "many", "lower", "sign"]
theorem sc52 : FnScope N52 ["row"] (defScope (top 52)) := ⟨rfl, rfl, rfl, by decide +kernel, rfl, by decide +kernel, by decide +kernel⟩
theorem ok_shifted (T : Tx K mg A) : FnOk P w K mg base CX0 2 A.shifted A.fd_shifted ["row"] (toSp K (g_shifted)) := by
  refine okDF T.F_shifted sc52 (fun ds μ R h => ?_) ⟨_, fun cdv A0 outer s H E hr =>
    (dss_cons (ds_set sc52.nd (i := 1) rfl (by first | exact Or.inl rfl | exact Or.inr rfl) (de_op op_rep sim_repC (de_lst (da_cons de_int da_nil)) (de_callB cr_len sim_len (by rfl) T.z_len boot_len (da_cons (dv 0) da_nil))))
      (dss_cons (ds_for PassesOwn.never rfl (di_enumL (by rfl) T.z_enumerate (da_cons (dv 0) da_nil)) (pg_tup (n := 2) (by rfl) (pgs_cons (pg_name (i := 2) sc52.nd rfl (by first | exact Or.inl rfl | exact Or.inr rfl)) (pgs_cons (pg_name (i := 3) sc52.nd rfl (by first | exact Or.inl rfl | exact Or.inr rfl)) pgs_nil))) (sim_tupT (n := 2) (sim_consT (sim_nm (i := 2)) (sim_consT (sim_nm (i := 3)) sim_nilT)))
      (dss_one (ds_for PassesOwn.never rfl (di_range (by rfl) T.z_range (da_cons (de_op op_plus sim_plus (dv 2) de_int) da_nil)) (pg_name (i := 4) sc52.nd rfl (by first | exact Or.inl rfl | exact Or.inr rfl)) (sim_nm (i := 4))
      (dss_cons (ds_set sc52.nd (i := 5) rfl (by first | exact Or.inl rfl | exact Or.inr rfl) (de_if (dt_cmp (op_eqA hr.units) sim_eq (de_op op_modN sim_mod (de_op op_sub sim_minus (dv 2) (dv 4)) de_int) de_int (nomark _)) de_int (de_un un_neg sim_neg de_int)))
      (dss_one (ds_augS (dv 1) (dv 4) (de_op op_mul sim_mul (de_op op_mul sim_mul (dv 5) (dv 3)) (de_callBf cr_comb sim_comb (by rfl) T.m_comb (da_cons (dv 2) (da_cons (dv 4) da_nil)))) ip_add sim_ipadd))))))
      (dss_one (ds_ret (dv 1))))), fun ds μ R h => ?_⟩
  · obtain ⟨row, rfl, _⟩ := h
    rfl
  · obtain ⟨row, rfl, hn, h⟩ := h
    have lr : (row.map D.int).length = row.length := List.length_map _
    refine ⟨by show 1 ≤ sizeLine; decide, ?_⟩
    refine ⟨⟨by rw [lr]; omega, by rw [lr]; omega, by show 1 ≤ 1000; omega⟩, fun c nc => ?_⟩
    have ew : (((row.map D.int).length : Nat) : Int).toNat = row.length := by rw [lr]; omega
    have e0 : ((zeros row.length).map Int.ofNat).map D.int = (shR row 0 0).map D.int := by
      rw [shR_start]
      unfold zeros
      rw [List.map_replicate]
      rfl
    rw [ew, zero_flat, e0]
    refine ⟨fun i δ' μ' => μ' = put μ c (.lst ((shR row i 0).map D.int)) ∧ ∃ o2 o3 o4 o5, δ' = [some (dRowI row), some (.adr c), o2, o3, o4, o5], ⟨rfl, none, none, none, none, rfl⟩, ?_, ?_⟩
    · rintro i x δ' μ' hx ⟨rfl, o2, o3, o4, o5, rfl⟩
      unfold DL.numbered at hx
      rw [List.getElem?_mapIdx, List.getElem?_map] at hx
      have hi : i < row.length := by
        rcases Nat.lt_or_ge i row.length with q | q
        · exact q
        · rw [List.getElem?_eq_none q] at hx; cases hx
      have hr : row[i]? = some (row.getD i 0) := by rw [List.getD_eq_getElem?_getD, List.getElem?_eq_getElem hi]; rfl
      rw [hr] at hx
      obtain rfl : D.tup [.int (i : Nat), .int (row.getD i 0)] = x := Option.some.inj hx
      refine ⟨rfl, ?_⟩
      refine ⟨⟨by omega, by omega⟩, ?_⟩
      refine ⟨fun k δ' μ' => μ' = put μ c (.lst ((shR row i k).map D.int)) ∧ ∃ o4 o5, δ' = [some (dRowI row), some (.adr c), some (.int (i : Nat)), some (.int (row.getD i 0)), o4, o5], ⟨rfl, o4, o5, rfl⟩, ?_, ?_⟩
      · rintro k x δ' μ' hx ⟨rfl, o4, o5, rfl⟩
        obtain ⟨hk, rfl⟩ := range_at hx
        have hk : k ≤ i := by omega
        have hkr : k < row.length := by omega
        have step : ∀ (sg : Int) (o4 o5 : Option D), sg = sgn (i + k) → gAugS (gVar 1) (gVar 4) (gOp gMul (gOp gMul (gVar 5) (gVar 3)) (gCall (g2 gComb2) (DL.gCons (gVar 2) (DL.gCons (gVar 4) DL.gNil)))) (gII0 fun i j => D.int (i + j))
            { nx := fun δ' μ' => μ' = put μ c (.lst ((shR row i (k + 1)).map D.int)) ∧ ∃ o4 o5, δ' = [some (dRowI row), some (.adr c), some (.int (i : Nat)), some (.int (row.getD i 0)), o4, o5], rt := fun _ _ => False, bk := fun _ _ => False, ct := fun _ _ => False }
            [some (dRowI row), some (.adr c), some (.int (i : Nat)), some (.int (row.getD i 0)), some (.int (k : Nat)), some (.int sg)] (put μ c (.lst ((shR row i k).map D.int))) := by
          rintro sg o4 o5 rfl
          refine ⟨c, k, _, .int (shA row i k k), rfl, rfl, put_same, shR_at hkr, ?_⟩
          refine ⟨.inl (by unfold sgn; split <;> omega), ?_⟩
          refine ⟨⟨by omega, by omega, by omega⟩, ?_⟩
          rw [comb_ch i (by omega) k (by omega)]
          refine ⟨.inr ?_, ?_⟩
          · have := ch_small i (by omega) k
            omega
          refine ⟨_, k, put_same, ?_, ?_⟩
          · unfold ixN
            rw [if_pos (by omega), if_pos (by rw [List.length_map]; unfold shR; rw [List.length_map, List.length_range]; omega)]
            simp
          · refine ⟨?_, _, _, rfl⟩
            rw [put_put, ← shR_set hkr, List.map_set]
        refine ⟨show ((2 : Int) ≠ 0) by decide, ?_⟩
        refine if_case (c := decide (((i : Int) - (k : Int)).fmod 2 = 0)) (fun e => ?_) (fun e => ?_)
        · refine step 1 none none ?_
          have e1 := of_decide_eq_true e
          rw [Int.fmod_eq_emod_of_nonneg _ (by decide)] at e1
          unfold sgn
          rw [if_pos (by omega)]
        · refine step (-1) none none ?_
          have e1 := of_decide_eq_false e
          rw [Int.fmod_eq_emod_of_nonneg _ (by decide)] at e1
          unfold sgn
          rw [if_neg (by omega)]
      · rintro δ' μ' ⟨rfl, o4, o5, rfl⟩
        have el : ((List.range ((i : Int) + 1).toNat).map fun i => D.int (i : Nat)).length = i + 1 := by rw [List.length_map, List.length_range]; omega
        rw [el, shR_next]
        exact ⟨rfl, _, _, _, _, rfl⟩
    · rintro δ' μ' ⟨rfl, o2, o3, o4, o5, rfl⟩
      have el : (DL.numbered (row.map D.int)).length = row.length := by unfold DL.numbered; rw [List.length_mapIdx, lr]
      rw [el, shR_end]
      have ed : del (put μ c (.lst ((shL row).map D.int))) c = μ := del_put nc
      refine ⟨_, μ, ?_, h⟩
      have fz := Into.frz (put_same (μ := μ) (a := c) (o := .lst ((shL row).map D.int)))
      rw [ed] at fz
      exact fz
def colsOf (rs : List (List Int)) (m : Nat) : List (List Int) := (List.range m).map fun i => rs.map fun r => r.getD i 0
def g_across : GC := fun ds μ R => ∃ (rs : List (List Int)) (m : Nat), ds = [dGridI rs] ∧ rs ≠ [] ∧ rs.length ≤ 12 ∧ m ≤ 12 ∧ (∀ r ∈ rs, r.length = m) ∧ R (dGridI (colsOf rs m)) μ
def asLst : D → D
  | .tup ds => .lst ds
  | d => d
def N53 : List Str := ["rows", "column"]
theorem sc53 : FnScope N53 ["rows"] (defScope (top 53)) := ⟨rfl, rfl, rfl, by decide +kernel, rfl, by decide +kernel, by decide +kernel⟩
theorem ok_across (T : Tx K mg A) : FnOk P w K mg base CX0 2 A.across A.fd_across ["rows"] (toSp K (g_across)) := by
  refine okD T.F_across sc53 (fun ds μ R h => ?_) ⟨_, fun cdv A0 outer s H E hr =>
    (dss_one (ds_ret (de_lc (own := [("column", 1)]) (by rfl) sc53.nd (di_zipN (by rfl) T.z_zip (dv 0)) (blkOk_by (N := N53) (own := [("column", 1)]) (sc := defScope (top 53)) (by decide +kernel)) (fun _ _ _ _ _ => (pg_name (i := 1) sc53.nd rfl (by first | exact Or.inl rfl | exact Or.inr rfl))) (sim_nm (i := 1)) (fun _ _ _ _ _ => dts_nil) (fun _ _ _ _ _ => (de_callTy call_list_of sim_list (by rfl) T.z_list boot_list (da_cons (dv 1) da_nil)))))), fun ds μ R h => ?_⟩
  · obtain ⟨rs, m, rfl, _⟩ := h
    rfl
  · obtain ⟨rs, m, rfl, ne, hn, hm, hl, h⟩ := h
    refine ⟨rs.map fun r => r.map D.int, m, ?_, ?_, ?_, ?_, ?_⟩
    · show dGridI rs = _
      unfold dGridI
      rw [List.map_map]
      rfl
    · exact fun e => ne (List.map_eq_nil_iff.mp e)
    · rw [List.length_map]; omega
    · intro r hr
      obtain ⟨q, hq, rfl⟩ := List.mem_map.mp hr
      rw [List.length_map]
      exact hl q hq
    · show LcB _ _ _ _ _ _ _ _
      refine lcb_map asLst ?_ ?_ ?_
      · rw [List.length_map, List.length_range, sizeLine_eq]; omega
      · intro x hx μ2 Y _ hy
        obtain ⟨i, hi, rfl⟩ := List.mem_map.mp hx
        exact hy
      · have e : (((List.range m).map fun i => D.tup ((rs.map fun r => r.map D.int).map fun r => r.getD i D.non)).map asLst) = (colsOf rs m).map dRowI := by
          unfold colsOf
          rw [List.map_map, List.map_map]
          refine List.map_congr_left fun i hi => ?_
          show D.lst _ = D.lst _
          rw [List.map_map, List.map_map]
          refine congrArg D.lst (List.map_congr_left fun r hr => ?_)
          have := List.mem_range.mp hi
          have h2 := hl r hr
          show (r.map D.int).getD i D.non = D.int (r.getD i 0)
          rw [List.getD_eq_getElem?_getD, List.getD_eq_getElem?_getD, List.getElem?_map, List.getElem?_eq_getElem (by omega)]
          rfl
        rw [e]
        exact h
def gridI (m n : Nat) (c : Nat → Nat → Int) : List (List Int) := (List.range m).map fun i => (List.range n).map fun j => c i j
theorem gridI_nat (m n : Nat) (f : Nat → Nat → Nat) : (grid m n f).map natI = gridI m n fun i j => (f i j : Nat) := by
  unfold grid gridI natI
  rw [List.map_map]
  refine List.map_congr_left fun i _ => ?_
  show List.map Int.ofNat ((List.range n).map _) = _
  rw [List.map_map]
  rfl
theorem range_getI {n : Nat} {f : Nat → Int} {q : Nat} (h : q < n) : ((List.range n).map f).getD q 0 = f q := by
  rw [List.getD_eq_getElem?_getD, List.getElem?_map, List.getElem?_range h]
  rfl
theorem gridI_sh (m n : Nat) (c : Nat → Nat → Int) : (gridI m n c).map shL = gridI m n fun i j => shS (c i) n j := by
  unfold gridI
  rw [List.map_map]
  refine List.map_congr_left fun i _ => ?_
  show shL ((List.range n).map _) = _
  unfold shL
  rw [List.length_map, List.length_range]
  refine List.map_congr_left fun l _ => ?_
  exact shS_congr fun q hq => range_getI hq
theorem gridI_cols (m n : Nat) (c : Nat → Nat → Int) : colsOf (gridI m n c) n = gridI n m fun j i => c i j := by
  unfold colsOf gridI
  refine List.map_congr_left fun j hj => ?_
  rw [List.map_map]
  refine List.map_congr_left fun i _ => ?_
  exact range_getI (List.mem_range.mp hj)
theorem gridI_len {m n : Nat} {c : Nat → Nat → Int} : (gridI m n c).length = m := by unfold gridI; rw [List.length_map, List.length_range]
theorem gridI_row {m n : Nat} {c : Nat → Nat → Int} {r : List Int} (h : r ∈ gridI m n c) : r.length = n := by
  obtain ⟨i, _, rfl⟩ := List.mem_map.mp h
  rw [List.length_map, List.length_range]
theorem gridI_ne {m n : Nat} {c : Nat → Nat → Int} (h : 0 < m) : gridI m n c ≠ [] := fun e => by
  have := gridI_len (m := m) (n := n) (c := c)
  rw [e] at this
  simp at this
  omega
def intOf : D → Int
  | .int i => i
  | _ => 0
def rowInts : D → List Int
  | .lst ds => ds.map intOf
  | _ => []
theorem rowInts_row (r : List Int) : rowInts (dRowI r) = r := by
  show (r.map D.int).map intOf = r
  rw [List.map_map]
  exact List.map_id _
def shD (d : D) : D := dRowI (shL (rowInts d))
theorem shD_map (rs : List (List Int)) : (rs.map dRowI).map shD = (rs.map shL).map dRowI := by
  rw [List.map_map, List.map_map]
  refine List.map_congr_left fun r _ => ?_
  show dRowI (shL (rowInts (dRowI r))) = _
  rw [rowInts_row]
  rfl
/-- the web's table of numbers -/
def tabI (p : List Nat) (ts : List Str) : List (List Int) := gridI (rankOf p ts (List.range ts.length) + 1) (ts.length - rankOf p ts (List.range ts.length) + 1) (tabS (fun a b => (cnt (rankOf p ts) ts.length a b : Nat)) (rankOf p ts (List.range ts.length) + 1) (ts.length - rankOf p ts (List.range ts.length) + 1))
def cntI (p : List Nat) (ts : List Str) : List (List Int) := gridI (rankOf p ts (List.range ts.length) + 1) (ts.length - rankOf p ts (List.range ts.length) + 1) fun a b => (cnt (rankOf p ts) ts.length a b : Nat)
theorem cntT_I (p : List Nat) (ts : List Str) : (cntT p ts (lotsL ts.length)).map natI = cntI p ts := gridI_nat _ _ _
def g_table_of (C : Addr) : GC := fun ds μ R => ∃ (p : List Nat) (ts : List Str), ds = [dWeb C p ts] ∧ OkWeb p ts ∧ p.Pairwise (· ≠ ·) ∧ R (dGridI (tabI p ts)) μ
def N54 : List Str := ["web", "rows", "row", "column"]
theorem sc54 : FnScope N54 ["web"] (defScope (top 54)) := ⟨rfl, rfl, rfl, by decide +kernel, rfl, by decide +kernel, by decide +kernel⟩
theorem ok_table_of (T : Tx K mg A) : FnOk P w K mg base CX0 8 A.table_of A.fd_table_of ["web"] (toSp K (g_table_of A.Web)) := by
  refine okD T.F_table_of sc54 (fun ds μ R h => ?_) ⟨_, fun cdv A0 outer s H E hr =>
    (dss_cons (ds_setLc (i := 1) (own := [("row", 2)]) (by rfl) sc54.nd rfl rfl (sw_true rfl rfl rfl (by decide +kernel)) (di_both (de_call ((ok_counts_of_lots T).mono (by decide)) hr (by rfl) T.g_counts_of_lots T.F_counts_of_lots.kp T.b_counts_of_lots (da_cons (dv 0) da_nil))) (blkOk_by (N := N54) (own := [("row", 2)]) (sc := defScope (top 54)) (by decide +kernel)) (fun _ _ _ _ _ => (pg_name (i := 2) sc54.nd rfl (by first | exact Or.inl rfl | exact Or.inr rfl))) (sim_nm (i := 2)) (fun _ _ _ _ _ => dts_nil) (fun _ _ _ _ _ => (de_call ((ok_shifted T).mono (by decide)) hr (by rfl) T.g_shifted T.F_shifted.kp T.b_shifted (da_cons (dv 2) da_nil))))
      (dss_one (ds_ret (de_call ((ok_across T).mono (by decide)) hr (by rfl) T.g_across T.F_across.kp T.b_across (da_cons (de_lc (own := [("column", 3)]) (by rfl) sc54.nd (di_both (de_call ((ok_across T).mono (by decide)) hr (by rfl) T.g_across T.F_across.kp T.b_across (da_cons (dv 1) da_nil))) (blkOk_by (N := N54) (own := [("column", 3)]) (sc := defScope (top 54)) (by decide +kernel)) (fun _ _ _ _ _ => (pg_name (i := 3) sc54.nd rfl (by first | exact Or.inl rfl | exact Or.inr rfl))) (sim_nm (i := 3)) (fun _ _ _ _ _ => dts_nil) (fun _ _ _ _ _ => (de_call ((ok_shifted T).mono (by decide)) hr (by rfl) T.g_shifted T.F_shifted.kp T.b_shifted (da_cons (dv 3) da_nil)))) da_nil))))), fun ds μ R h => ?_⟩
  · obtain ⟨p, ts, rfl, _⟩ := h
    rfl
  · obtain ⟨p, ts, rfl, ok, un, h⟩ := h
    have few := ok.many
    have rl := grid_web un ok.ends
    refine ⟨p, ts, rfl, ok, un, ?_⟩
    rw [cntT_I]
    show LcB _ _ _ _ _ _ _ _
    refine lcb_map shD ?_ ?_ ?_
    · rw [List.length_map]
      unfold cntI
      rw [gridI_len, sizeLine_eq]; omega
    · intro x hx μ2 Y _ hy
      obtain ⟨r, hr, rfl⟩ := List.mem_map.mp hx
      refine ⟨r, rfl, by rw [gridI_row hr]; omega, ?_⟩
      unfold shD at hy
      rw [rowInts_row] at hy
      exact hy
    · rw [shD_map]
      unfold cntI
      rw [gridI_sh]
      refine ⟨_, _, rfl, gridI_ne (by omega), by rw [gridI_len]; omega, by omega, fun r hr => gridI_row hr, ?_⟩
      rw [gridI_cols]
      show LcB _ _ _ _ _ _ _ _
      refine lcb_map shD ?_ ?_ ?_
      · rw [List.length_map, gridI_len, sizeLine_eq]; omega
      · intro x hx μ2 Y _ hy
        obtain ⟨r, hr, rfl⟩ := List.mem_map.mp hx
        refine ⟨r, rfl, by rw [gridI_row hr]; omega, ?_⟩
        unfold shD at hy
        rw [rowInts_row] at hy
        exact hy
      · rw [shD_map, gridI_sh]
        refine ⟨_, _, rfl, gridI_ne (by omega), by rw [gridI_len]; omega, by omega, fun r hr => gridI_row hr, ?_⟩
        rw [gridI_cols]
        exact h
def dTabI (rs : List (List Int)) : D := .tup (rs.map fun r => .tup (r.map D.int))
def tupOf : D → D
  | .lst ds => .tup ds
  | d => d
def g_tuple_of_rowsI : GC := fun ds μ R => ∃ rs : List (List Int), ds = [dGridI rs] ∧ rs.length ≤ 1000 ∧ R (dTabI rs) μ
theorem ok_tuple_of_rowsI (T : Tx K mg A) : FnOk P w K mg base CX0 1 A.tuple_of_rows A.fd_tuple_of_rows ["rows"] (toSp K (g_tuple_of_rowsI)) := by
  refine okD T.F_tuple_of_rows sc50 (fun ds μ R h => ?_) ⟨_, fun cdv A0 outer s H E hr =>
    (dss_one (ds_ret (de_callTy call_tuple_of sim_tuple (by rfl) T.z_tuple boot_tuple (da_cons (de_lc (own := [("row", 1)]) (by rfl) sc50.nd (di_both (dv 0)) (blkOk_by (N := N50) (own := [("row", 1)]) (sc := defScope (top 50)) (by decide +kernel)) (fun _ _ _ _ _ => (pg_name (i := 1) sc50.nd rfl (by first | exact Or.inl rfl | exact Or.inr rfl))) (sim_nm (i := 1)) (fun _ _ _ _ _ => dts_nil) (fun _ _ _ _ _ => (de_callTy call_tuple_of sim_tuple (by rfl) T.z_tuple boot_tuple (da_cons (dv 1) da_nil)))) da_nil)))), fun ds μ R h => ?_⟩
  · obtain ⟨rs, rfl, _⟩ := h
    rfl
  · obtain ⟨rs, rfl, hl, h⟩ := h
    show LcB _ _ _ _ _ _ _ _
    refine lcb_map tupOf ?_ ?_ ?_
    · rw [List.length_map, sizeLine_eq]; omega
    · intro x hx μ2 Y _ hy
      obtain ⟨r, hr, rfl⟩ := List.mem_map.mp hx
      exact hy
    · rw [List.map_map]
      exact h
def g_table (C : Addr) : GC := fun ds μ R => ∃ (p : List Nat) (ts : List Str), ds = [dWeb C p ts] ∧ OkWeb p ts ∧ p.Pairwise (· ≠ ·) ∧ R (dTabI (tabI p ts)) μ
def N55 : List Str := ["web"]
theorem sc55 : FnScope N55 ["web"] (defScope (top 55)) := ⟨rfl, rfl, rfl, by decide +kernel, rfl, by decide +kernel, by decide +kernel⟩
theorem ok_table (T : Tx K mg A) : FnOk P w K mg base CX0 9 A.table A.fd_table ["web"] (toSp K (g_table A.Web)) := by
  refine okD T.F_table sc55 (fun ds μ R h => ?_) ⟨_, fun cdv A0 outer s H E hr =>
    (dss_cons (ds_expr (de_call ((ok_check_web T).mono (by decide)) hr (by rfl) T.g_check_web T.F_check_web.kp T.b_check_web (da_cons (dv 0) da_nil)))
      (dss_one (ds_ret (de_call ((ok_tuple_of_rowsI T).mono (by decide)) hr (by rfl) T.g_tuple_of_rows T.F_tuple_of_rows.kp T.b_tuple_of_rows (da_cons (de_call ((ok_table_of T).mono (by decide)) hr (by rfl) T.g_table_of T.F_table_of.kp T.b_table_of (da_cons (dv 0) da_nil)) da_nil))))), fun ds μ R h => ?_⟩
  · obtain ⟨p, ts, rfl, _⟩ := h
    rfl
  · obtain ⟨p, ts, rfl, ok, un, h⟩ := h
    refine ⟨p, ts, rfl, p, ts, rfl, ok, un, ?_⟩
    have few := ok.many
    have rl := grid_web un ok.ends
    exact ⟨_, rfl, by unfold tabI; rw [gridI_len]; omega, h⟩
end
end K10
set_option Elab.async false
set_option linter.all false
set_option maxRecDepth 100000
namespace K10
open PySem PySem.Spec PyProof.Rows L2 DL
section
variable {P : Program} {w : World} {K : PySem.W.Frag} {mg : Str → Option Value} {base : Heap} {A : Ad}
/-! ### the table's numbers are numbers of trees -/
/-! ### fractions -/
def valD (t d : Int) : D := .tup [.int (t / (Nat.gcd t.natAbs d.natAbs : Nat)), .int (d / (Nat.gcd t.natAbs d.natAbs : Nat))]
end
end K10
set_option Elab.async false
set_option linter.all false
set_option maxRecDepth 100000
namespace K10
open PySem PySem.Spec PyProof.Rows L2 DL
/-! ### marks as a function of the place; a tie shut -/
/-- the lesser end for the greater one -/
def ren (l g x : Nat) : Nat := if x = g then l else x
def Rn (l g : Nat) (y z : Nat × Nat) : Prop := z = (ren l g y.1, ren l g y.2) ∨ z = (ren l g y.2, ren l g y.1)
inductive Rns (l g : Nat) : List (Nat × Nat) → List (Nat × Nat) → Prop where
  | nil : Rns l g [] []
  | cons {y z : Nat × Nat} {ys zs : List (Nat × Nat)} : Rn l g y z → Rns l g ys zs → Rns l g (y :: ys) (z :: zs)
structure Shutting (l g : Nat) (μ ν : Nat → Nat) : Prop where
  same : ∀ c, c ≠ g → μ c = ν c
  both : μ g = μ l
  none : ∀ c, μ c ≠ g
theorem Shutting.at_ {l g : Nat} {μ ν : Nat → Nat} (h : Shutting l g μ ν) (hn : l ≠ g) (x : Nat) : ν (ren l g x) = μ x := by
  unfold ren
  split
  · rename_i e
    rw [e, h.both, h.same l hn]
  · rename_i e
    exact (h.same x e).symm
theorem Shutting.step {l g : Nat} {μ ν : Nat → Nat} (h : Shutting l g μ ν) (hn : l ≠ g) {y z : Nat × Nat} (r : Rn l g y z) : Shutting l g (stepF μ y) (stepF ν z) := by
  have key : ∀ c, stepF ν z c = if ν c = max (μ y.1) (μ y.2) then min (μ y.1) (μ y.2) else ν c := fun c => by
    unfold stepF
    rcases r with rfl | rfl
    · rw [h.at_ hn, h.at_ hn]
    · rw [h.at_ hn, h.at_ hn, Nat.max_comm, Nat.min_comm]
  refine ⟨fun c hc => ?_, ?_, fun c => ?_⟩
  · rw [key, ← h.same c hc]
    rfl
  · unfold stepF
    rw [h.both]
  · unfold stepF
    split
    · have h1 := h.none y.1
      have h2 := h.none y.2
      omega
    · exact h.none c
theorem Shutting.run {l g : Nat} (hn : l ≠ g) : ∀ (ys zs : List (Nat × Nat)) (μ ν : Nat → Nat), Shutting l g μ ν → Rns l g ys zs → Shutting l g (marksF μ ys) (marksF ν zs)
  | [], [], _, _, h, _ => h
  | y :: ys, z :: zs, μ, ν, h, .cons r t => Shutting.run hn ys zs _ _ (h.step hn r) t
/-! ### the table's numbers, whatever the bounds -/
end K10
set_option Elab.async false
set_option linter.all false
set_option maxRecDepth 100000
set_option Elab.async false
set_option linter.all false
set_option maxRecDepth 100000
namespace DL
open PySem PySem.Spec PyProof.Rows L2
/-! ### a cell that nobody changes any more goes on as a plain list, before a statement -/
/-! ### range of two numbers -/
end DL
set_option Elab.async false
set_option linter.all false
set_option maxRecDepth 100000
namespace DL
open PySem PySem.Spec PyProof.Rows L2
/-! ### zip of a tuple and a list -/
end DL
set_option Elab.async false
set_option linter.all false
set_option maxRecDepth 100000
namespace DL
open PySem PySem.Spec PyProof.Rows L2
/-! ### a plain list, some times over -/
end DL
set_option Elab.async false
set_option linter.all false
set_option maxRecDepth 100000
namespace K10
open PySem PySem.Spec PyProof.Rows L2 DL
section
variable {P : Program} {w : World} {K : PySem.W.Frag} {mg : Str → Option Value} {base : Heap} {A : Ad}
/-! ### len of a web, by its own def; slices of texts -/
theorem cutSL {p : List Nat} {e : Nat} (h : e ≤ p.length) : cutS (toS p) none (some (e : Int)) = toS (p.take e) := by
  unfold cutS
  rw [HT.sIx_nat, HT.sIx_none, toS_len, toS_list, List.drop_zero, Nat.min_eq_left h, Nat.sub_zero]
  rfl
theorem OkT.snoc {p : List Nat} {ts : List Str} (h : OkT p ts) {a b : Nat} (ha : a ∈ p) (hb : b ∈ p) (k : a ≤ b) : OkT p (ts ++ [yTie a b]) := ⟨fun y hy => by
  rcases List.mem_append.mp hy with q | q
  · exact h.ties y q
  · rw [List.mem_singleton.mp q]
    exact ⟨a, b, rfl, ha, hb, k⟩⟩
theorem mm_in {p : List Nat} {a b : Nat} (ha : a ∈ p) (hb : b ∈ p) : min a b ∈ p ∧ max a b ∈ p ∧ min a b ≤ max a b := by
  by_cases e : a ≤ b
  · rw [Nat.min_eq_left e, Nat.max_eq_right e]; exact ⟨ha, hb, e⟩
  · rw [Nat.min_eq_right (by omega), Nat.max_eq_left (by omega)]; exact ⟨hb, ha, by omega⟩
theorem toS_size (h : List Nat) : (toS h).length = h.length := by show h.toArray.size = _; rw [List.size_toArray]
/-! ### letters in order; rank and spare of a lot -/
end
end K10
set_option Elab.async false
set_option linter.all false
set_option maxRecDepth 100000
set_option Elab.async false
set_option linter.all false
set_option maxRecDepth 100000
set_option Elab.async false
set_option linter.all false
set_option maxRecDepth 100000
set_option Elab.async false
set_option linter.all false
set_option maxRecDepth 100000
namespace K10
open PySem PySem.Spec PyProof.Rows L2 DL
section
variable {P : Program} {w : World} {K : PySem.W.Frag} {mg : Str → Option Value} {base : Heap} {A : Ad}
/-! ### a tie shut -/
def cutAt (ts : List Str) (k : Nat) : List Str := ts.take k ++ ts.drop (k + 1)
theorem OkT.less {p : List Nat} {ts : List Str} (h : OkT p ts) (k : Nat) : OkT p (cutAt ts k) := ⟨fun y hy => by
  rcases List.mem_append.mp hy with q | q
  · exact h.ties y (List.mem_of_mem_take q)
  · exact h.ties y (List.mem_of_mem_drop q)⟩
/-! ### the table by cutting and shutting -/
end
end K10
set_option Elab.async false
set_option linter.all false
set_option maxRecDepth 100000
namespace DL
open PySem PySem.Spec PyProof.Rows L2
/-! ### a text of two signs unpacked: two new texts, their tokens told -/
end DL
set_option Elab.async false
set_option linter.all false
set_option maxRecDepth 100000
namespace DL
open PySem PySem.Spec PyProof.Rows L2
/-! ### e.replace of texts that two cells hold, their tokens known -/
/-! ### o.f walked, o a plain name; what cells hold stays -/
end DL
set_option Elab.async false
set_option linter.all false
set_option maxRecDepth 100000
namespace DL
open PySem PySem.Spec PyProof.Rows L2
end DL
set_option Elab.async false
set_option linter.all false
set_option maxRecDepth 100000
namespace DL
open PySem PySem.Spec PyProof.Rows L2
end DL
set_option Elab.async false
set_option linter.all false
set_option maxRecDepth 100000
namespace K10
open PySem PySem.Spec PyProof.Rows L2 DL
section
variable {P : Program} {w : World} {K : PySem.W.Frag} {mg : Str → Option Value} {base : Heap} {A : Ad}
/-! ### letters in order; a tie shut, by the program -/
def g_in_order : GC := fun ds μ R => ∃ f : List Nat, ds = [.str (toS f)] ∧ f.length ≤ 1000 ∧ ∀ ms : List Nat, ms.Perm f → ms.Pairwise (· ≤ ·) → R (.str (toS ms)) μ
def N23 : List Str := ["letters"]
theorem sc23 : FnScope N23 ["letters"] (defScope (top 23)) := ⟨rfl, rfl, rfl, by decide +kernel, rfl, by decide +kernel, by decide +kernel⟩
theorem ok_in_order (T : Tx K mg A) : FnOk P w K mg base CX0 1 A.in_order A.fd_in_order ["letters"] (toSp K (g_in_order)) := by
  refine okD T.F_in_order sc23 (fun ds μ R h => ?_) ⟨_, fun cdv A0 outer s H E hr =>
    (dss_one (ds_ret (de_bm PySem.F.plainAttrs_str PySem.F.slot_str_join PySem.F.type_str_join mt_join sim_join ok_str de_str (da_cons (de_callB (DL.cr_sortedT (by rfl)) sim_sortedT (by rfl) T.z_sorted boot_sorted (da_cons (dv 0) da_nil)) da_nil)))), fun ds μ R h => ?_⟩
  · obtain ⟨f, rfl, _⟩ := h
    rfl
  · obtain ⟨f, rfl, few, h⟩ := h
    refine ⟨True.intro, ?_⟩
    refine ⟨by show f.toArray.size ≤ sizeLine; rw [List.size_toArray, sizeLine_eq]; omega, fun ys hp hs => ?_⟩
    rw [toS_list] at hp
    obtain ⟨ms, h1, h2, rfl⟩ := sorted_signs (f := f) hp hs
    have len := h1.length_eq
    refine ⟨_, rfl, by rw [sum_sg]; have : ("" : Str).length = 0 := (by decide +kernel); rw [this]; omega, ?_⟩
    show R (.str (Txt.join ("" : Str) (ms.map sg))) μ
    rw [join_sg]
    exact h ms h1 h2
end
end K10
set_option Elab.async false
set_option linter.all false
set_option maxRecDepth 100000
set_option Elab.async false
set_option linter.all false
set_option maxRecDepth 100000
namespace K10
open PySem PySem.Spec PyProof.Rows L2 DL
section
variable {P : Program} {w : World} {K : PySem.W.Frag} {mg : Str → Option Value} {base : Heap} {A : Ad}
/-! ### powers and sums by the law -/
def Bd (x : Int) (k : Nat) : Prop := x.natAbs ≤ 2 ^ k
theorem Bd.range {x : Int} (a : Bd x 21) : -(2 ^ 64) < x ∧ x < 2 ^ 64 := by
  unfold Bd at a
  omega
end
end K10
set_option Elab.async false
set_option linter.all false
set_option maxRecDepth 100000
set_option Elab.async false
set_option linter.all false
set_option maxRecDepth 100000
namespace DL
open PySem PySem.Spec PyProof.Rows L2
/-! ### t.index(d), t a tuple of data -/
/-! ### a, b = a text of two signs -/
end DL
set_option Elab.async false
set_option linter.all false
set_option maxRecDepth 100000
namespace K10
open PySem PySem.Spec PyProof.Rows L2 DL
section
variable {P : Program} {w : World} {K : PySem.W.Frag} {mg : Str → Option Value} {base : Heap} {A : Ad}
/-! ### draws of the casks -/
theorem nc1 : (2147482873 : Int) ≠ 0 := by decide
theorem nc2 : (39019 : Int) ≠ 0 := by decide
def gIxC : G2 := fun x y μ R => ∃ (a : Addr) (k : Nat) (ds : List D) (d : D), x = .adr a ∧ y = .int (k : Nat) ∧ μ a = some (.lst ds) ∧ ds[k]? = some d ∧ R d μ
theorem sim_ixC {K : PySem.W.Frag} : SimO K (rIxA K) gIxC := fun x y dx dy H μ Q R rm rx ry q f => by
  obtain ⟨a, k, ds, d, rfl, rfl, h1, h2, q⟩ := q
  exact sim_ix x y _ _ H μ Q R rm rx ry (ix_cell k h1 h2 q) f
def g_L_cask : GC := fun ds μ R => ∃ (ns : List Int) (k : Nat), ds = [.seq (ns.map D.int), .int (k : Nat)] ∧ ns.length ≤ 1000 ∧ ∀ (x y z : Int) (a : Addr), μ a = none → R (.adr a) (put μ a (pot x y z))
def N57 : List Str := ["_law_cells", "_law_at", "_law_own", "_law_mixed", "_law_k"]
theorem sc57 : FnScope N57 ["_law_cells", "_law_at"] (defScope (top 57)) := ⟨rfl, rfl, rfl, by decide +kernel, rfl, by decide +kernel, by decide +kernel⟩
theorem ok_L_cask (T : Tx K mg A) : FnOk P w K mg base CX0 1 A.L_cask A.fd_L_cask ["_law_cells", "_law_at"] (toSp K (g_L_cask)) := by
  refine okD T.F_L_cask sc57 (fun ds μ R h => ?_) ⟨_, fun cdv A0 outer s H E hr =>
    (dss_cons (ds_set sc57.nd (i := 2) rfl (by first | exact Or.inl rfl | exact Or.inr rfl) (de_if (dt_cmp op_ltA sim_ord (dv 1) (de_callB cr_len sim_len (by rfl) T.z_len boot_len (da_cons (dv 0) da_nil)) (nomark _)) (de_ix ix_any sim_ix (dv 0) (dv 1) (fun _ _ => rfl)) de_int))
      (dss_cons (ds_set sc57.nd (i := 3) rfl (by first | exact Or.inl rfl | exact Or.inr rfl) (de_op op_plus sim_plus de_int (de_op op_mul sim_mul de_int (dv 1))))
      (dss_cons (ds_for PassesOwn.never rfl (di_range (by rfl) T.z_range (da_cons (de_callB (call_min2 (by rfl)) sim_min2 (by rfl) T.z_min boot_min (da_cons (de_callB cr_len sim_len (by rfl) T.z_len boot_len (da_cons (dv 0) da_nil)) (da_cons de_int da_nil))) da_nil)) (pg_name (i := 4) sc57.nd rfl (by first | exact Or.inl rfl | exact Or.inr rfl)) (sim_nm (i := 4))
      (dss_one (ds_set sc57.nd (i := 3) rfl (by first | exact Or.inl rfl | exact Or.inr rfl) (de_op op_modN sim_mod (de_callTy call_int1 sim_int (by rfl) T.z_int boot_int (da_cons (de_op op_plus sim_plus (de_op op_plus sim_plus (de_op op_mul sim_mul (dv 3) (de_op op_plus sim_plus de_int (de_op op_mul sim_mul de_int (dv 4)))) (de_op op_mul sim_mul de_int (de_ix ix_any sim_ix (dv 0) (dv 4) (fun _ _ => rfl)))) de_int) da_nil)) de_int))))
      (dss_one (ds_ret (de_cell (da_cons (de_if (dw_or (dt_cmp op_ltA sim_ord (dv 2) de_int (nomark _)) (dw_or1 (dt_cmp op_geA sim_ord (dv 2) (de_op op_pow sim_pow de_int de_int) (nomark _)))).dt (de_callB call_abs sim_abs (by rfl) T.z_abs boot_abs (da_cons (dv 2) da_nil)) de_int) (da_cons (de_op op_modN sim_mod (de_callTy call_int1 sim_int (by rfl) T.z_int boot_int (da_cons (de_op op_plus sim_plus (de_op op_mul sim_mul (dv 3) de_int) (de_op op_mul sim_mul (dv 2) de_int)) da_nil)) de_int) (da_cons de_int da_nil))))))))), fun ds μ R h => ?_⟩
  · obtain ⟨ns, k, rfl, _⟩ := h
    rfl
  · obtain ⟨ns, k, rfl, ln, h⟩ := h
    refine if_case (c := decide ((k : Int) < ((ns.map D.int).length : Int))) (fun e => ?a) (fun e => ?b)
    case' a =>
      have e := of_decide_eq_true e
      have hk : k < ns.length := by
        have : ((ns.map D.int).length : Int) = ns.length := by rw [List.length_map]
        omega
      obtain ⟨n, hn⟩ := ints_at hk
      apply atK_nat hn
    all_goals
      refine ⟨Or.inl ⟨by decide, by decide⟩, ?_⟩
      refine ⟨⟨?_, ?_⟩, ?_⟩
      · split <;> omega
      · split <;> omega
      refine ⟨fun i δ' μ' => μ' = μ ∧ ∃ (c2 c : Int) (o4 : Option D), δ' = [some (.seq (ns.map D.int)), some (.int (k : Nat)), some (.int c2), some (.int c), o4], ⟨rfl, _, _, none, rfl⟩, ?_, ?_⟩
      · rintro i x δ' μ' hx ⟨rfl, c2, c, o4, rfl⟩
        obtain ⟨hi, rfl⟩ := range_at hx
        have hi : i < ns.length ∧ i < 8 := by
          have e1 : (((ns.map D.int).length : Nat) : Int) = ns.length := by rw [List.length_map]
          rw [e1] at hi
          split at hi <;> omega
        obtain ⟨n, hn⟩ := ints_at hi.1
        refine ⟨Or.inl ⟨by decide, by decide⟩, ?_⟩
        refine ⟨Or.inr ⟨by omega, by omega⟩, ?_⟩
        apply atK_nat hn
        refine ⟨Or.inl ⟨by decide, by decide⟩, ?_⟩
        refine ⟨nc1, ?_⟩
        exact ⟨rfl, _, _, _, rfl⟩
      · rintro δ' μ' ⟨rfl, n, c, o4, rfl⟩
        refine if_case (c := decide (n < 0)) (fun e => ?_) (fun e => ?_)
        · refine ⟨Or.inr ⟨by decide, by decide⟩, Or.inr ⟨by decide, by decide⟩, ?_⟩
          refine ⟨nc1, ?_⟩
          refine ⟨by show 3 ≤ sizeLine; decide, fun a na => ?_⟩
          exact h _ _ _ a na
        · refine ⟨⟨by decide, by decide, by decide⟩, ?_⟩
          refine if_case (c := decide ((10 : Int) ^ (18 : Int).toNat ≤ n)) (fun e => ?_) (fun e => ?_)
          · refine ⟨Or.inr ⟨by decide, by decide⟩, Or.inr ⟨by decide, by decide⟩, ?_⟩
            refine ⟨nc1, ?_⟩
            refine ⟨by show 3 ≤ sizeLine; decide, fun a na => ?_⟩
            exact h _ _ _ a na
          · refine ⟨Or.inr ⟨by decide, by decide⟩, Or.inr ⟨by decide, by decide⟩, ?_⟩
            refine ⟨nc1, ?_⟩
            refine ⟨by show 3 ≤ sizeLine; decide, fun a na => ?_⟩
            exact h _ _ _ a na
def g_L_tapW : GC := fun ds μ R => ∃ (a : Addr) (x y z m : Int), ds = [.adr a, .int m] ∧ μ a = some (pot x y z) ∧ 0 < m ∧ m < 1073741824 ∧ ∀ (d : Nat) (x y z : Int), (d : Int) < m → R (.int (d : Nat)) (put μ a (pot x y z))
def N58 : List Str := ["_law_cask_here", "_law_upto", "_law_figure", "_law_mixed"]
theorem sc58 : FnScope N58 ["_law_cask_here", "_law_upto"] (defScope (top 58)) := ⟨rfl, rfl, rfl, by decide +kernel, rfl, by decide +kernel, by decide +kernel⟩
theorem ok_L_tap (T : Tx K mg A) : FnOk P w K mg base CX0 1 A.L_tap A.fd_L_tap ["_law_cask_here", "_law_upto"] (toSp K (g_L_tapW)) := by
  refine okD T.F_L_tap sc58 (fun ds μ R h => ?_) ⟨_, fun cdv A0 outer s H E hr =>
    (dss_cons (ds_if (dt_cmp op_gtA sim_ord (de_ix ix_any sim_ix (dv 0) de_int (fun _ _ => rfl)) de_int (nomark _)) (dss_cons (ds_asgH (de_callB call_divmodW sim_divmodW2 (by rfl) T.z_divmod boot_divmod (da_cons (de_ix ix_any sim_ix (dv 0) de_int (fun _ _ => rfl)) (da_cons (dv 1) da_nil))) (pg_tup (n := 2) (by rfl) (pgs_cons (pg_subD (dv 0) de_int) (pgs_cons (pg_name (i := 2) sc58.nd rfl (by first | exact Or.inl rfl | exact Or.inr rfl)) pgs_nil))) (simH_tup (n := 2) (simH_cons simH_subD (simH_cons (simH_nm (i := 2)) simH_nil))))
      (dss_one (ds_ret (dv 2)))) dss_nil)
      (dss_cons (ds_asgH (de_op op_plus sim_plus (de_ix ix_any sim_ix (dv 0) de_int (fun _ _ => rfl)) de_int) (pg_subD (dv 0) de_int) simH_subD)
      (dss_cons (ds_set sc58.nd (i := 3) rfl (by first | exact Or.inl rfl | exact Or.inr rfl) (de_op op_mul sim_mul (de_ix ix_any sim_ix (dv 0) de_int (fun _ _ => rfl)) (de_op op_plus sim_plus (de_op op_modN sim_mod (de_callTy call_int1 sim_int (by rfl) T.z_int boot_int (da_cons (de_op op_fdivN sim_fdiv (de_ix ix_any sim_ix (dv 0) de_int (fun _ _ => rfl)) de_int) da_nil)) de_int) de_int)))
      (dss_cons (ds_asgH (de_op op_modN sim_mod (de_callTy call_int1 sim_int (by rfl) T.z_int boot_int (da_cons (de_op op_plus sim_plus (de_op op_plus sim_plus (dv 3) (de_op op_mul sim_mul de_int (de_ix ix_any sim_ix (dv 0) de_int (fun _ _ => rfl)))) de_int) da_nil)) de_int) (pg_subD (dv 0) de_int) simH_subD)
      (dss_one (ds_ret (de_op op_modN sim_mod (de_callTy call_int1 sim_int (by rfl) T.z_int boot_int (da_cons (de_op op_fdivN sim_fdiv (de_ix ix_any sim_ix (dv 0) de_int (fun _ _ => rfl)) de_int) da_nil)) (dv 1)))))))), fun ds μ R h => ?_⟩
  · obtain ⟨a, x, y, z, m, rfl, _⟩ := h
    rfl
  · obtain ⟨a, x, y, z, m, rfl, ha, m0, m1, h⟩ := h
    have mn : m ≠ 0 := by omega
    apply ix_cell 0 ha rfl
    refine if_case (c := decide (0 < x)) (fun e => ?_) (fun e => ?_)
    · apply ix_cell 0 ha rfl
      refine ⟨⟨m0, by omega⟩, ?_⟩
      refine ⟨rfl, _, 0, ha, rfl, ?_⟩
      show R (.int (x % m)) (put μ a (pot (x / m) y z))
      have hn : 0 ≤ x % m := Int.emod_nonneg _ (by omega)
      have hl : x % m < m := Int.emod_lt_of_pos _ m0
      have := h (x % m).toNat (x / m) y z (by omega)
      rw [Int.toNat_of_nonneg hn] at this
      exact this
    · apply ix_cell 2 ha rfl
      apply set_cell (ds' := [.int x, .int y, .int (z + 1)]) 2 ha (by show 2 < 3; omega) rfl
      have h1 : put μ a (.lst [.int x, .int y, .int (z + 1)]) a = some (.lst [.int x, .int y, .int (z + 1)]) := put_same
      generalize hμ : put μ a (.lst [.int x, .int y, .int (z + 1)]) = μ1 at h1 ⊢
      dsimp only
      apply ix_cell 1 h1 rfl
      apply ix_cell 1 h1 rfl
      refine ⟨⟨by decide, by decide⟩, ?_⟩
      refine ⟨nc2, ?_⟩
      have f0 : 0 ≤ (y.fdiv 8).fmod 39019 := Int.fmod_nonneg_of_pos _ (by decide)
      have f1 : (y.fdiv 8).fmod 39019 < 39019 := Int.fmod_lt_of_pos _ (by decide)
      refine ⟨Or.inr ⟨by omega, by omega⟩, ?_⟩
      apply ix_cell 2 h1 rfl
      refine ⟨Or.inl ⟨by decide, by decide⟩, nc1, ?_⟩
      obtain ⟨y1, hy⟩ : ∃ y1, (y * ((y.fdiv 8).fmod 39019 + 71) + 10061 * (z + 1) + 31).fmod 2147482873 = y1 := ⟨_, rfl⟩
      apply set_cell (ds' := [.int x, .int y1, .int (z + 1)]) 1 h1 (by show 1 < 3; omega) (by rw [← hy]; rfl)
      rw [← hμ, put_put]
      have h2 : put μ a (.lst [.int x, .int y1, .int (z + 1)]) a = some (.lst [.int x, .int y1, .int (z + 1)]) := put_same
      generalize hμ2 : put μ a (.lst [.int x, .int y1, .int (z + 1)]) = μ2 at h2 ⊢
      dsimp only
      apply ix_cell 1 h2 rfl
      refine ⟨⟨by decide, by decide⟩, ?_⟩
      refine ⟨mn, ?_⟩
      show R (.int ((y1.fdiv 8192).fmod m)) μ2
      rw [← hμ2]
      have hn : 0 ≤ (y1.fdiv 8192).fmod m := Int.fmod_nonneg_of_pos _ m0
      have hl : (y1.fdiv 8192).fmod m < m := Int.fmod_lt_of_pos _ m0
      have := h ((y1.fdiv 8192).fmod m).toNat x y1 (z + 1) (by omega)
      rw [Int.toNat_of_nonneg hn] at this
      exact this
/-- one of the things of a list -/
def g_L_pick : GC := fun ds μ R => ∃ (a : Addr) (x y z : Int) (l : List D), ds = [.adr a, .lst l] ∧ μ a = some (pot x y z) ∧ 1 ≤ l.length ∧ l.length ≤ 5000 ∧ ∀ (d : D) (x y z : Int), d ∈ l → R d (put μ a (pot x y z))
def N59 : List Str := ["_law_cask_here", "_law_things"]
theorem sc59 : FnScope N59 ["_law_cask_here", "_law_things"] (defScope (top 59)) := ⟨rfl, rfl, rfl, by decide +kernel, rfl, by decide +kernel, by decide +kernel⟩
theorem ok_L_pick (T : Tx K mg A) : FnOk P w K mg base CX0 2 A.L_pick A.fd_L_pick ["_law_cask_here", "_law_things"] (toSp K (g_L_pick)) := by
  refine okD T.F_L_pick sc59 (fun ds μ R h => ?_) ⟨_, fun cdv A0 outer s H E hr =>
    (dss_one (ds_ret (de_ix ix_any sim_ix (dv 1) (de_call ((ok_L_tap T).mono (by decide)) hr (by rfl) T.g_L_tap T.F_L_tap.kp T.b_L_tap (da_cons (dv 0) (da_cons (de_callB cr_len sim_len (by rfl) T.z_len boot_len (da_cons (dv 1) da_nil)) da_nil))) (fun _ _ => rfl)))), fun ds μ R h => ?_⟩
  · obtain ⟨a, x, y, z, l, rfl, _⟩ := h
    rfl
  · obtain ⟨a, x, y, z, l, rfl, ha, l1, l2, h⟩ := h
    refine ⟨a, x, y, z, _, rfl, ha, by omega, by omega, fun v x y z hv => ?_⟩
    have hv : v < l.length := by omega
    exact atK_nat (List.getElem?_eq_getElem hv) (h _ _ _ _ (List.getElem_mem hv))
def g_L_spots : GC := fun ds μ R => ∃ (a : Addr) (x y z : Int) (n : Nat), ds = [.adr a, .int (n : Nat)] ∧ μ a = some (pot x y z) ∧ 1 ≤ n ∧ n ≤ 7 ∧ ∀ (p : List Nat) (x y z : Int), OkPlaces p → p.length = n → R (.str (toS p)) (put μ a (pot x y z))
def N60 : List Str := ["_law_cask_here", "_law_many_here", "_law_rest", "_law_found", "_law_turn"]
theorem sc60 : FnScope N60 ["_law_cask_here", "_law_many_here"] (defScope (top 60)) := ⟨rfl, rfl, rfl, by decide +kernel, rfl, by decide +kernel, by decide +kernel⟩
theorem ok_L_spots (T : Tx K mg A) : FnOk P w K mg base CX0 3 A.L_spots A.fd_L_spots ["_law_cask_here", "_law_many_here"] (toSp K (g_L_spots)) := by
  refine okDF T.F_L_spots sc60 (fun ds μ R h => ?_) ⟨_, fun cdv A0 outer s H E hr =>
    (dss_cons (ds_par (i := 2) (j := 3) (by rfl) sc60.nd rfl rfl (by decide) rfl rfl (da_cons (de_callTy (call_listS (by rfl)) sim_listSC (by rfl) T.z_list boot_list (da_cons de_str da_nil)) (da_cons (de_cell da_nil) da_nil)) (by rfl))
      (dss_cons (ds_for PassesOwn.never rfl (di_range (by rfl) T.z_range (da_cons (dv 1) da_nil)) (pg_name (i := 4) sc60.nd rfl (by first | exact Or.inl rfl | exact Or.inr rfl)) (sim_nm (i := 4))
      (dss_one (ds_expr (de_bm PySem.F.plainAttrs_list PySem.F.slot_list_append PySem.F.type_list_append mt_append sim_append ok_cell (dv 3) (da_cons (de_bm PySem.F.plainAttrs_list PySem.F.slot_list_pop PySem.F.type_list_pop mt_popAt sim_popAt ok_cell (dv 2) (da_cons (de_call ((ok_L_tap T).mono (by decide)) hr (by rfl) T.g_L_tap T.F_L_tap.kp T.b_L_tap (da_cons (dv 0) (da_cons (de_callB cr_len sim_lenC (by rfl) T.z_len boot_len (da_cons (dv 2) da_nil)) da_nil))) da_nil)) da_nil)))))
      (dss_one (ds_ret (de_bm PySem.F.plainAttrs_str PySem.F.slot_str_join PySem.F.type_str_join mt_join sim_join ok_str de_str (da_cons (de_callB cr_sortedS sim_srtC (by rfl) T.z_sorted boot_sorted (da_cons (dv 3) da_nil)) da_nil)))))), fun ds μ R h => ?_⟩
  · obtain ⟨a, x, y, z, n, rfl, _⟩ := h
    rfl
  · obtain ⟨a, x, y, z, n, rfl, ha, n1, n7, h⟩ := h
    have sl8 : ("abcdefgh" : Str).length ≤ sizeLine := by
      have e : ("abcdefgh" : Str).length = 8 := by decide +kernel
      rw [e, sizeLine_eq]
      omega
    have z0 : 0 ≤ sizeLine := by decide
    have s0 : Sa μ μ a := ⟨fun c o _ e => e, ⟨x, y, z, ha⟩⟩
    refine ⟨sl8, fun b1 m1' => ?_⟩
    obtain ⟨m1, e1⟩ := s0.new m1'
    have s1 : Sa μ (put μ b1 (.lst (DL.signs ("abcdefgh" : Str)))) a := s0.cell m1 e1 _
    have c1 : Sc μ (put μ b1 (.lst (DL.signs ("abcdefgh" : Str)))) a b1 (chs eight) := ⟨by rw [put_same, eight_signs], m1, e1⟩
    generalize put μ b1 (.lst (DL.signs ("abcdefgh" : Str))) = μ1 at s1 c1 ⊢
    refine ⟨z0, fun b2 n2 => ?_⟩
    obtain ⟨m2, e2⟩ := s1.new n2
    have d12 : b1 ≠ b2 := c1.apart (l' := []) n2
    have s2 := s1.cell m2 e2 (.lst [])
    have c1 := c1.other (o := .lst []) d12
    have c2 : Sc μ (put μ1 b2 (.lst [])) a b2 (chs []) := ⟨put_same, m2, e2⟩
    generalize put μ1 b2 (.lst []) = μ2 at s2 c1 c2 ⊢
    refine ⟨⟨by omega, by omega⟩, ?_⟩
    have en : ((List.range ((n : Nat) : Int).toNat).map fun i => D.int (i : Nat)).length = n := by
      rw [List.length_map, List.length_range]
      omega
    refine ⟨fun i δ' μ' => ∃ (pl fo : List Nat) (o4 : Option D), Sa μ μ' a ∧ Sc μ μ' a b1 (chs pl) ∧ Sc μ μ' a b2 (chs fo) ∧ (pl ++ fo).Perm eight ∧ fo.length = i ∧
      δ' = [some (.adr a), some (.int (n : Nat)), some (.adr b1), some (.adr b2), o4], ⟨eight, [], none, s2, c1, c2, by rw [List.append_nil], rfl, rfl⟩, ?_, ?_⟩
    · rintro i it δ' μ' hi ⟨pl, fo, o4, s, k1, k2, hp, hl, rfl⟩
      obtain ⟨hi, rfl⟩ := range_at hi
      have hi : i < n := by omega
      have hpl : pl.length + fo.length = 8 := by
        have := hp.length_eq
        rw [List.length_append] at this
        exact this
      refine ⟨cell_ok k2.at_, ?_⟩
      refine ⟨cell_ok k1.at_, ?_⟩
      refine ⟨_, _, rfl, k1.at_, ?_⟩
      obtain ⟨px, py, pz, hpot⟩ := s.has
      have lc : (chs pl).length = pl.length := List.length_map _
      refine ⟨a, px, py, pz, _, rfl, hpot, by rw [lc]; omega, by rw [lc]; omega, fun v x y z hv => ?_⟩
      rw [lc] at hv
      have hv : v < pl.length := by omega
      have s := s.draw x y z
      have k1 := k1.draw x y z
      have k2 := k2.draw x y z
      generalize put μ' a (pot x y z) = μ5 at s k1 k2 ⊢
      refine ⟨_, k1.at_, by omega, by omega, .str (sg pl[v]), ?_, ?_⟩
      · show (chs pl)[v]? = _
        unfold chs
        rw [List.getElem?_map, List.getElem?_eq_getElem hv]
        rfl
      · have ee : (chs pl).eraseIdx ((v : Int)).toNat = chs (pl.eraseIdx v) := by
          unfold chs
          rw [erase_map]
          rfl
        rw [ee]
        have s := s.cell k1.new k1.ne (.lst (chs (pl.eraseIdx v)))
        have k2 := k2.other (o := .lst (chs (pl.eraseIdx v))) d12.symm
        have k1 := k1.same (m := chs (pl.eraseIdx v))
        generalize put μ5 b1 (.lst (chs (pl.eraseIdx v))) = μ6 at s k1 k2 ⊢
        refine ⟨_, k2.at_, by unfold chs; rw [List.length_map, sizeLine_eq]; omega, ?_⟩
        have ef : chs fo ++ [.str (sg pl[v])] = chs (fo ++ [pl[v]]) := by
          unfold chs
          rw [List.map_append]
          rfl
        rw [ef]
        refine ⟨pl.eraseIdx v, fo ++ [pl[v]], _, s.cell k2.new k2.ne _, k1.other d12, k2.same, ?_, by rw [List.length_append, hl]; rfl, rfl⟩
        refine .trans ?_ hp
        have p1 : (pl[v] :: pl.eraseIdx v).Perm pl := erase_perm pl v hv
        refine .trans ?_ (p1.append_right fo)
        rw [← List.append_assoc]
        exact List.perm_append_comm.trans (by simp)
    · rintro δ' μ' ⟨pl, fo, o4, s, k1, k2, hp, hl, rfl⟩
      rw [en] at hl
      refine ⟨trivial, ?_⟩
      refine ⟨_, fo.map sg, rfl, by rw [k2.at_]; unfold chs; rw [List.map_map]; rfl, by rw [List.length_map]; omega, fun ys hy hs => ?_⟩
      obtain ⟨p, q1, q2, rfl⟩ := sorted_signs hy hs
      have hpl : p.length = n := by rw [q1.length_eq, hl]
      have nod : (pl ++ fo).Nodup := hp.nodup_iff.mpr (by decide)
      have nf : fo.Nodup := (List.nodup_append.mp nod).2.1
      have np : p.Nodup := q1.nodup_iff.mpr nf
      have asc : p.Pairwise (· < ·) := by
        have := List.Pairwise.and q2 np
        exact this.imp fun h => Nat.lt_of_le_of_ne h.1 h.2
      have op : OkPlaces p := by
        refine ⟨by omega, by omega, asc, fun c hc => ?_⟩
        have : c ∈ eight := hp.subset (List.mem_append_right _ (q1.subset hc))
        simp [eight] at this
        omega
      have e0 : ("" : Str).length = 0 := by decide +kernel
      refine ⟨_, rfl, by rw [sum_sg, e0]; omega, ?_⟩
      rw [join_sg]
      exact s.back fun x y z => h p x y z op hpl
def g_L_joint : GC := fun ds μ R => ∃ c d : Nat, ds = [.str (sg c), .str (sg d)] ∧ R (.str (yTie (min c d) (max c d))) μ
def N61 : List Str := ["_law_one", "_law_two"]
theorem sc61 : FnScope N61 ["_law_one", "_law_two"] (defScope (top 61)) := ⟨rfl, rfl, rfl, by decide +kernel, rfl, by decide +kernel, by decide +kernel⟩
theorem ok_L_joint (T : Tx K mg A) : FnOk P w K mg base CX0 1 A.L_joint A.fd_L_joint ["_law_one", "_law_two"] (toSp K (g_L_joint)) := by
  refine okD T.F_L_joint sc61 (fun ds μ R h => ?_) ⟨_, fun cdv A0 outer s H E hr =>
    (dss_one (ds_ret (de_if (dt_cmp op_leA sim_ord (dv 0) (dv 1) (nomark _)) (de_op op_plus sim_plus (dv 0) (dv 1)) (de_op op_plus sim_plus (dv 1) (dv 0))))), fun ds μ R h => ?_⟩
  · obtain ⟨c, d, rfl, _⟩ := h
    rfl
  · obtain ⟨c, d, rfl, h⟩ := h
    have e : ((sg d).cps.toList < (sg c).cps.toList) ↔ d < c := by
      show [d] < [c] ↔ _
      rw [List.cons_lt_cons_iff]
      exact ⟨fun h => h.elim id fun h => absurd h.2 (List.not_lt_nil _), .inl⟩
    refine if_case (c := !decide ((sg d).cps.toList < (sg c).cps.toList)) (fun q => ?_) (fun q => ?_)
    · have q : c ≤ d := by
        simp [e] at q
        omega
      refine ⟨by show 1 + 1 ≤ sizeLine; decide, ?_⟩
      rw [Nat.min_eq_left q, Nat.max_eq_right q] at h
      exact h
    · have q : d ≤ c := by
        simp [e] at q
        omega
      refine ⟨by show 1 + 1 ≤ sizeLine; decide, ?_⟩
      rw [Nat.min_eq_right q, Nat.max_eq_left q] at h
      exact h
theorem _root_.DL.Into.tup2 {x d d' : D} {μ μ' : Mu} (h : Into d μ d' μ') : Into (.tup [x, d]) μ (.tup [x, d']) μ' := ⟨fun K H v rm r => by
  obtain ⟨a, vs, rfl, im, rl⟩ := rep_tup r
  unfold RepL at rl
  obtain ⟨vx, r, rfl, rx, rl⟩ := rl
  unfold RepL at rl
  obtain ⟨vd, r, rfl, rd, rl⟩ := rl
  obtain ⟨k, rm', r2⟩ := h.ok K H vd rm rd
  refine ⟨k, rm', ?_⟩
  unfold RepL at rl
  subst rl
  unfold Rep
  exact ⟨a, _, rfl, im.mono k, RepL.cons (rx.mono k) (RepL.cons r2 RepL.nil)⟩⟩
theorem Sa.out {μ μ1 : Mu} {a b : Addr} {l : List D} (s : Sa μ μ1 a) (c : Sc μ μ1 a b l) : ∃ μ2 : Mu, Into (.adr b) μ1 (.lst l) μ2 ∧ ∃ x y z, μ2 = put μ a (pot x y z) := by
  obtain ⟨x, y, z, e⟩ := s.has
  refine ⟨put μ a (pot x y z), .trans (.frz c.at_) (.less fun d o hd => ?_), x, y, z, rfl⟩
  by_cases q : d = a
  · rw [q, put_same] at hd
    rw [q, del_ne c.ne.symm, e]
    exact hd
  · rw [put_ne q] at hd
    have nb : d ≠ b := fun z => by rw [z, c.new] at hd; cases hd
    rw [del_ne nb]
    exact s.keep d o q hd
def dNet (p : List Nat) (ts : List Str) : D := .tup [.str (toS p), .lst (ts.map D.str)]
def g_L_net : GC := fun ds μ R => ∃ (a : Addr) (x y z : Int) (most many : Nat), ds = [.adr a, .int (most : Nat), .int (many : Nat)] ∧ μ a = some (pot x y z) ∧ 1 ≤ most ∧ most ≤ 7 ∧ many ≤ 11 ∧
  ∀ (p : List Nat) (ts : List Str) (x y z : Int), OkPlaces p → OkT p ts → p.length ≤ most → ts.length ≤ many → R (dNet p ts) (put μ a (pot x y z))
theorem chs_in {p : List Nat} {d : D} (h : d ∈ chs p) : ∃ c, c ∈ p ∧ d = .str (sg c) := by
  obtain ⟨c, hc, rfl⟩ := List.mem_map.mp h
  exact ⟨c, hc, rfl⟩
theorem signs_chs (p : List Nat) : DL.signs (toS p) = chs p := by
  unfold DL.signs chs
  rw [toS_list]
  rfl
theorem OkT.setLast {p : List Nat} {ts : List Str} (h : OkT p ts) {y : Str} (hy : y ∈ ts) (k : Nat) : OkT p (ts.set k y) := ⟨fun z hz => by
  rcases List.mem_or_eq_of_mem_set hz with q | q
  · exact h.ties z q
  · rw [q]; exact h.ties y hy⟩
def N62 : List Str := ["_law_cask_here", "_law_most_spots", "_law_most_rows", "_law_spots_here", "_law_rows", "_law_turn"]
theorem sc62 : FnScope N62 ["_law_cask_here", "_law_most_spots", "_law_most_rows"] (defScope (top 62)) := ⟨rfl, rfl, rfl, by decide +kernel, rfl, by decide +kernel, by decide +kernel⟩
theorem ok_L_net (T : Tx K mg A) : FnOk P w K mg base CX0 4 A.L_net A.fd_L_net ["_law_cask_here", "_law_most_spots", "_law_most_rows"] (toSp K (g_L_net)) := by
  refine okDF T.F_L_net sc62 (fun ds μ R h => ?_) ⟨_, fun cdv A0 outer s H E hr =>
    (dss_cons (ds_set sc62.nd (i := 3) rfl (by first | exact Or.inl rfl | exact Or.inr rfl) (de_call ((ok_L_spots T).mono (by decide)) hr (by rfl) T.g_L_spots T.F_L_spots.kp T.b_L_spots (da_cons (dv 0) (da_cons (de_op op_plus sim_plus de_int (de_call ((ok_L_tap T).mono (by decide)) hr (by rfl) T.g_L_tap T.F_L_tap.kp T.b_L_tap (da_cons (dv 0) (da_cons (dv 1) da_nil)))) da_nil))))
      (dss_cons (ds_set sc62.nd (i := 4) rfl (by first | exact Or.inl rfl | exact Or.inr rfl) (de_cell da_nil))
      (dss_cons (ds_for PassesOwn.never rfl (di_range (by rfl) T.z_range (da_cons (de_call ((ok_L_tap T).mono (by decide)) hr (by rfl) T.g_L_tap T.F_L_tap.kp T.b_L_tap (da_cons (dv 0) (da_cons (de_op op_plus sim_plus (dv 2) de_int) da_nil))) da_nil)) (pg_name (i := 5) sc62.nd rfl (by first | exact Or.inl rfl | exact Or.inr rfl)) (sim_nm (i := 5))
      (dss_cons (ds_expr (de_bm PySem.F.plainAttrs_list PySem.F.slot_list_append PySem.F.type_list_append mt_append sim_append ok_cell (dv 4) (da_cons (de_call ((ok_L_joint T).mono (by decide)) hr (by rfl) T.g_L_joint T.F_L_joint.kp T.b_L_joint (da_cons (de_call ((ok_L_pick T).mono (by decide)) hr (by rfl) T.g_L_pick T.F_L_pick.kp T.b_L_pick (da_cons (dv 0) (da_cons (de_callTy (call_listS (by rfl)) sim_listS (by rfl) T.z_list boot_list (da_cons (dv 3) da_nil)) da_nil))) (da_cons (de_call ((ok_L_pick T).mono (by decide)) hr (by rfl) T.g_L_pick T.F_L_pick.kp T.b_L_pick (da_cons (dv 0) (da_cons (de_callTy (call_listS (by rfl)) sim_listS (by rfl) T.z_list boot_list (da_cons (dv 3) da_nil)) da_nil))) da_nil))) da_nil)))
      (dss_one (ds_if (dt_cmp (op_eqA hr.units) sim_eq (de_call ((ok_L_tap T).mono (by decide)) hr (by rfl) T.g_L_tap T.F_L_tap.kp T.b_L_tap (da_cons (dv 0) (da_cons de_int da_nil))) de_int (nomark _)) (dss_one (ds_asgH (de_ix ix_any sim_ixC (dv 4) de_int (fun _ _ => rfl)) (pg_subD (dv 4) (de_un un_neg sim_neg de_int)) simH_subD)) dss_nil))))
      (dss_one (ds_ret (de_tup (da_cons (dv 3) (da_cons (dv 4) da_nil)))))))), fun ds μ R h => ?_⟩
  · obtain ⟨a, x, y, z, most, many, rfl, _⟩ := h
    rfl
  · obtain ⟨a, x, y, z, most, many, rfl, ha, hm1, hm2, hmm, h⟩ := h
    have z0 : 0 ≤ sizeLine := by decide
    have s0 : Sa μ μ a := ⟨fun c o _ e => e, ⟨x, y, z, ha⟩⟩
    refine ⟨a, x, y, z, _, rfl, ha, by omega, by omega, fun d x y z hd => ?_⟩
    have s1 := s0.draw x y z
    generalize put μ a (pot x y z) = μ1 at s1 ⊢
    obtain ⟨px, py, pz, hpot⟩ := s1.has
    refine ⟨a, px, py, pz, 1 + d, congrArg (fun q => [D.adr a, D.int q]) (by omega), hpot, by omega, by omega, fun p x y z op hpl => ?_⟩
    have s1 := s1.draw x y z
    generalize put μ1 a (pot x y z) = μ2 at s1 ⊢
    have p1 := op.one
    refine ⟨z0, fun b2 n2 => ?_⟩
    obtain ⟨m2, e2⟩ := s1.new n2
    have s2 := s1.cell m2 e2 (.lst [])
    have c2 : Sc μ (put μ2 b2 (.lst [])) a b2 (([] : List Str).map D.str) := ⟨put_same, m2, e2⟩
    generalize put μ2 b2 (.lst []) = μ3 at s2 c2 ⊢
    obtain ⟨px, py, pz, hpot⟩ := s2.has
    refine ⟨a, px, py, pz, _, rfl, hpot, by omega, by omega, fun n x y z hn => ?_⟩
    have s2 := s2.draw x y z
    have c2 := c2.draw x y z
    generalize put μ3 a (pot x y z) = μ4 at s2 c2 ⊢
    have hn : n ≤ many := by omega
    refine ⟨⟨by omega, by omega⟩, ?_⟩
    have en : ((n : Nat) : Int).toNat = n := Int.toNat_natCast _
    rw [en]
    have lc : (chs p).length = p.length := List.length_map _
    have tl : (toS p).length ≤ sizeLine := by rw [toS_len, sizeLine_eq]; omega
    refine ⟨fun i δ' μ' => ∃ (ts : List Str) (o5 : Option D), Sa μ μ' a ∧ Sc μ μ' a b2 (ts.map D.str) ∧ OkT p ts ∧ ts.length = i ∧
      δ' = [some (.adr a), some (.int (most : Nat)), some (.int (many : Nat)), some (.str (toS p)), some (.adr b2), o5], ⟨[], none, s2, c2, ⟨fun y hy => by cases hy⟩, rfl, rfl⟩, ?_, ?_⟩
    · rintro i it δ' μ' hi ⟨ts, o5, s, k2, ot, ht, rfl⟩
      obtain ⟨hi, rfl⟩ := range_at hi
      refine ⟨cell_ok k2.at_, ?_⟩
      refine ⟨tl, ?_⟩
      rw [signs_chs]
      obtain ⟨px, py, pz, hpot⟩ := s.has
      refine ⟨a, px, py, pz, _, rfl, hpot, by rw [lc]; omega, by rw [lc]; omega, fun d1 x y z hd1 => ?_⟩
      obtain ⟨ca, hca, rfl⟩ := chs_in hd1
      have s := s.draw x y z
      have k2 := k2.draw x y z
      generalize put μ' a (pot x y z) = μ7 at s k2 ⊢
      refine ⟨tl, ?_⟩
      rw [signs_chs]
      obtain ⟨px, py, pz, hpot⟩ := s.has
      refine ⟨a, px, py, pz, _, rfl, hpot, by rw [lc]; omega, by rw [lc]; omega, fun d2 x y z hd2 => ?_⟩
      obtain ⟨cb, hcb, rfl⟩ := chs_in hd2
      have s := s.draw x y z
      have k2 := k2.draw x y z
      generalize put μ7 a (pot x y z) = μ8 at s k2 ⊢
      obtain ⟨q1, q2, q3⟩ := mm_in hca hcb
      refine ⟨_, _, rfl, ?_⟩
      have ef : ts.map D.str ++ [.str (yTie (min ca cb) (max ca cb))] = (ts ++ [yTie (min ca cb) (max ca cb)]).map D.str := by
        rw [List.map_append]
        rfl
      refine ⟨_, k2.at_, by rw [List.length_map, sizeLine_eq]; omega, ?_⟩
      rw [ef]
      have s := s.cell k2.new k2.ne (.lst ((ts ++ [yTie (min ca cb) (max ca cb)]).map D.str))
      have k2 := k2.same (m := (ts ++ [yTie (min ca cb) (max ca cb)]).map D.str)
      have ot := ot.snoc q1 q2 q3
      have lt : (ts ++ [yTie (min ca cb) (max ca cb)]).length = i + 1 := by rw [List.length_append, ht]; rfl
      generalize ts ++ [yTie (min ca cb) (max ca cb)] = us at s k2 ot lt ⊢
      generalize put μ8 b2 (.lst (us.map D.str)) = μ9 at s k2 ⊢
      obtain ⟨px, py, pz, hpot⟩ := s.has
      refine ⟨a, px, py, pz, _, rfl, hpot, by decide, by decide, fun w x y z hw => ?_⟩
      have s := s.draw x y z
      have k2 := k2.draw x y z
      generalize put μ9 a (pot x y z) = μ10 at s k2 ⊢
      refine if_case (c := decide ((w : Int) = 0)) (fun e => ?_) (fun e => ?_)
      · have h0 : us[0]? = some us[0] := List.getElem?_eq_getElem (by omega)
        refine ⟨b2, 0, us.map D.str, .str us[0], rfl, rfl, k2.at_, by rw [List.getElem?_map, h0]; rfl, ?_⟩
        refine ⟨us.map D.str, i, k2.at_, ?_, ?_⟩
        · rw [List.length_map, lt]
          unfold ixN
          rw [if_neg (by omega), if_pos (by omega)]
          congr 1
          omega
        · have es : (us.map D.str).set i (.str us[0]) = (us.set i us[0]).map D.str := (List.map_set).symm
          rw [es]
          exact ⟨_, _, s.cell k2.new k2.ne _, k2.same, ot.setLast (List.getElem_mem _) i, by rw [List.length_set]; exact lt, rfl⟩
      · exact ⟨us, _, s, k2, ot, lt, rfl⟩
    · rintro δ' μ' ⟨ts, o5, s, k2, ot, ht, rfl⟩
      rw [List.length_map, List.length_range] at ht
      refine ⟨by show 2 ≤ sizeLine; decide, ?_⟩
      obtain ⟨μ5, i5, x, y, z, rfl⟩ := s.out k2
      exact ⟨_, _, i5.tup2, h p ts x y z op ot (by omega) (by omega)⟩
end
end K10
set_option Elab.async false
set_option linter.all false
set_option maxRecDepth 100000
namespace K10
open PySem PySem.Spec PyProof.Rows L2 DL
section
variable {p : List Nat} {ts : List Str}
/-! ### ranks of two lots -/
theorem rank_len (u : p.Pairwise (· ≠ ·)) (he : Ends p ts) : ∀ w : List Nat, In ts w → rankOf p ts w ≤ w.length := by
  intro w hw
  have := nonFix_le u (tiesOf ts w)
  show nonFix (marksL p (tiesOf ts w)) p ≤ w.length
  unfold tiesOf at this
  rw [List.length_map] at this
  exact this
theorem rank_app (u : p.Pairwise (· ≠ ·)) (he : Ends p ts) {a : List Nat} (ha : In ts a) : ∀ w : List Nat, In ts w → rankOf p ts (a ++ w) ≤ rankOf p ts a + w.length := by
  refine snoc_ind (P := fun w => In ts w → rankOf p ts (a ++ w) ≤ rankOf p ts a + w.length) (fun _ => by rw [List.append_nil]; omega) ?_
  intro w k ih hw
  have hw' : In ts w := fun j hj => hw j (List.mem_append.mpr (.inl hj))
  have hk : k < ts.length := hw k (List.mem_append.mpr (.inr (List.mem_singleton.mpr rfl)))
  have := ih hw'
  rw [← List.append_assoc, rank_more u he (fun j hj => (List.mem_append.mp hj).elim (ha j) (hw' j)) hk, List.length_append, List.length_singleton]
  split <;> omega
theorem rank_out (u : p.Pairwise (· ≠ ·)) (he : Ends p ts) {v : List Nat} (hv : In ts v) (nd : v.Nodup) {k : Nat} (hk : k ∈ v) : rankOf p ts v = rankOf p ts (wout v k) + if partsL p ts (wout v k) k = true then 1 else 0 := by
  rw [← rank_more u he (in_wout hv k) (hv k hk)]
  refine lot_rank u he hv (in_snoc (in_wout hv k) (hv k hk)) (fun j hj => ?_) fun j hj => ?_
  · by_cases e : j = k
    · exact List.mem_append.mpr (.inr (List.mem_singleton.mpr e))
    · exact List.mem_append.mpr (.inl (wout_mem.mpr ⟨hj, e⟩))
  · rcases List.mem_append.mp hj with q | q
    · exact (wout_mem.mp q).1
    · rw [List.mem_singleton.mp q]; exact hk
/-! ### rings -/
def ringB (p : List Nat) (ts : List Str) (v : List Nat) : Bool := decide (v.length = rankOf p ts v + 1) && v.all fun k => decide ((wout v k).length = rankOf p ts (wout v k))
theorem ring_len {v : List Nat} (h : ringB p ts v = true) : v.length = rankOf p ts v + 1 := by
  unfold ringB at h
  rw [Bool.and_eq_true] at h
  exact of_decide_eq_true h.1
theorem wout_asc {v : List Nat} (a : v.Pairwise (· < ·)) (k : Nat) : (wout v k).Pairwise (· < ·) := a.filter _
/-- a lot with a spare tie has a ring within it -/
theorem ring_within (u : p.Pairwise (· ≠ ·)) (he : Ends p ts) : ∀ (n : Nat) (v : List Nat), v.length = n → v.Pairwise (· < ·) → In ts v → v.length ≠ rankOf p ts v → ∃ r, r.Pairwise (· < ·) ∧ (∀ k ∈ r, k ∈ v) ∧ ringB p ts r = true
  | n, v, hn, hv, hi, hs => by
    have nd : v.Nodup := hv.imp fun h => Nat.ne_of_lt h
    have le := rank_len u he v hi
    by_cases q : ∀ k ∈ v, (wout v k).length = rankOf p ts (wout v k)
    · refine ⟨v, hv, fun k hk => hk, ?_⟩
      unfold ringB
      rw [Bool.and_eq_true]
      refine ⟨decide_eq_true ?_, List.all_eq_true.mpr fun k hk => decide_eq_true (q k hk)⟩
      have hne : v ≠ [] := fun e => by
        rw [e] at hs le
        exact hs (Nat.le_antisymm (Nat.zero_le _) le)
      obtain ⟨k, hk⟩ := List.exists_mem_of_ne_nil v hne
      have h1 := rank_out u he hi nd hk
      have h2 := wout_len nd hk
      have h3 := q k hk
      split at h1 <;> omega
    · have : ∃ k ∈ v, (wout v k).length ≠ rankOf p ts (wout v k) := by
        apply Classical.byContradiction
        intro z
        exact q fun k hk => Classical.byContradiction fun y => z ⟨k, hk, y⟩
      obtain ⟨k, hk, hq⟩ := this
      have h2 := wout_len nd hk
      match n, hn with
      | 0, hn => omega
      | n + 1, hn =>
        obtain ⟨r, a, b, c⟩ := ring_within u he n (wout v k) (by omega) (wout_asc hv k) (in_wout hi k) hq
        exact ⟨r, a, fun j hj => (wout_mem.mp (b j hj)).1, c⟩
theorem spare_mono (u : p.Pairwise (· ≠ ·)) (he : Ends p ts) {r v : List Nat} (nr : r.Nodup) (nv : v.Nodup) (hv : In ts v) (s : ∀ k ∈ r, k ∈ v) : r.length + rankOf p ts v ≤ v.length + rankOf p ts r := by
  have hr : In ts r := fun k hk => hv k (s k hk)
  have ho : In ts (v.filter fun k => decide (k ∉ r)) := fun k hk => hv k (List.mem_filter.mp hk).1
  have h1 := rank_app u he hr _ ho
  have e : rankOf p ts (r ++ v.filter fun k => decide (k ∉ r)) = rankOf p ts v := lot_rank u he (fun k hk => (List.mem_append.mp hk).elim (hr k) (ho k)) hv (fun k hk => (List.mem_append.mp hk).elim (s k) fun z => (List.mem_filter.mp z).1) fun k hk => by
    by_cases q : k ∈ r
    · exact List.mem_append.mpr (.inl q)
    · exact List.mem_append.mpr (.inr (List.mem_filter.mpr ⟨hk, decide_eq_true q⟩))
  have h2 : (r ++ v.filter fun k => decide (k ∉ r)).length ≤ v.length := by
    refine nodup_le (List.nodup_append.mpr ⟨nr, nv.filter _, fun a ha b hb e => ?_⟩) fun k hk => (List.mem_append.mp hk).elim (s k) fun z => (List.mem_filter.mp z).1
    subst e
    exact of_decide_eq_true (List.mem_filter.mp hb).2 ha
  rw [List.length_append] at h2
  rw [e] at h1
  omega
/-! ### bonds -/
end
/-! ### herds -/
def herdOf (p : List Nat) (ys : List (Nat × Nat)) (a : Nat) : List Nat := p.filter fun c => decide (markOf p (marksL p ys) c = markOf p (marksL p ys) a)
structure Herds (p : List Nat) (ys : List (Nat × Nat)) (hs : List (List Nat)) : Prop where
  nod : hs.Nodup
  all : ∀ h, h ∈ hs ↔ ∃ a, a ∈ p ∧ h = herdOf p ys a
theorem Herds.perm {p : List Nat} {ys : List (Nat × Nat)} {hs gs : List (List Nat)} (h : Herds p ys hs) (g : Herds p ys gs) : hs.Perm gs := (List.perm_ext_iff_of_nodup h.nod g.nod).mpr fun x => by rw [h.all, g.all]
/-! ### herds in the order of texts -/
end K10
set_option Elab.async false
set_option linter.all false
set_option maxRecDepth 100000
namespace DL
open PySem PySem.W PySem.Spec PyProof.Rows L2
/-! ### dict comprehensions over data; tuple(d.values()) -/
theorem dc_it {J : It} {n : Nat} {G : Hp → Prop} {Y : Nat → Hp → V → Hp → Prop} (w : Walk J n G Y) {g : TG} {tt : TT} {tk tv : TE} {vs : List Nat} {σ : L2.St} {H1 : Hp} {D : Addr} {Qd : Hp → Prop} (Pv : Nat → Hp → Prop) (h0 : Pv 0 (upd H1 D (.dK []))) (hG : ∀ i H, i ≤ n → Pv i H → G H)
    (hs : ∀ i x H H', i < n → Pv i H → Y i H x H' → g x (L2.wipe σ vs) H' fun σ2 H2 => L2.wipe σ2 vs = L2.wipe σ vs ∧ tt σ2 H2 fun b H3 =>
      if b = true then tk σ2 H3 fun y H4 => tv σ2 H4 fun z H5 => ∃ kvs k, y = kV k ∧ H5 D = some (.dK kvs) ∧ kvs.length < sizeLine ∧ Pv (i + 1) (upd H5 D (.dK (putK kvs k z))) else Pv (i + 1) H3) (hd : ∀ H, Pv n H → Qd H) :
    ∃ W : Nat → Nat → Hp → Prop, (∃ m, W 0 m (upd H1 D (.dK []))) ∧ ∀ i m H, W i m H →
      (J.stop i H ∧ Qd H) ∨ (J.go i H ∧ ∃ Nx : Hp → Prop, (∀ H', Nx H' → ∃ m', m' < m ∧ W (i + 1) m' H') ∧ ∀ x H', J.yld i H x H' → g x (L2.wipe σ vs) H' fun σ2 H2 => L2.wipe σ2 vs = L2.wipe σ vs ∧ tt σ2 H2 fun b H3 =>
        if b = true then tk σ2 H3 fun y H4 => tv σ2 H4 fun z H5 => ∃ kvs k, y = kV k ∧ H5 D = some (.dK kvs) ∧ kvs.length < sizeLine ∧ Nx (upd H5 D (.dK (putK kvs k z))) else Nx H3) := by
  refine ⟨fun i m H => m = n - i ∧ i ≤ n ∧ Pv i H, ⟨n, by simp, Nat.zero_le _, h0⟩, ?_⟩
  rintro i m H ⟨rfl, hi, p⟩
  have q := hG i H hi p
  by_cases hlt : i < n
  · refine .inr ⟨w.goes i H hlt q, Pv (i + 1), fun H' p' => ⟨n - (i + 1), by omega, rfl, hlt, p'⟩, fun x H' y => hs i x H H' hlt p (w.yields i H x H' hlt q y)⟩
  · have e : i = n := by omega
    subst e
    exact .inl ⟨w.stops H q, hd H p⟩
/-- what a dict comprehension asks over its items -/
structure DcB (gt : GG) (gc : GT) (gk ge : GE) (own : List Nat) (δ : DS) (R : KD) (items : List D) (μ1 : Mu) : Prop where
  ex : ∀ a, μ1 a = none → ∃ Iv : Nat → Mu → Prop, Iv 0 (put μ1 a (.dct [])) ∧
  (∀ i x μ', items[i]? = some x → Iv i μ' → gt x (wiped δ own) fun δ2 => gc δ2 μ' fun b μ2 => if b = true then gk δ2 μ2 fun y μ3 => ge δ2 μ3 fun z μ4 => ∃ kvs k, keyOf y = some k ∧ μ4 a = some (.dct kvs) ∧ kvs.length < sizeLine ∧ Iv (i + 1) (put μ4 a (.dct (putD kvs k z))) else Iv (i + 1) μ2) ∧
  ∀ μ', Iv items.length μ' → R (.adr a) μ'
def gDc (gi : GI) (gt : GG) (gc : GT) (gk ge : GE) (own : List Nat) : GE := fun δ μ R => gi δ μ (DcB gt gc gk ge own δ R)
theorem sim_dc {K : PySem.W.Frag} {ti : TI} {gi : GI} {g : TG} {gg : GG} {ow : List Nat} {tc : TT} {gc : GT} {tk te : TE} {gk ge : GE} {own : List Nat} (hi : SimI K ti gi) (sg : SimG K g gg ow) (ho : ∀ i ∈ ow, i ∈ own) (hc : SimT K tc gc) (hk : SimE K tk gk) (he : SimE K te ge) :
    SimE K (tDc ti g tc tk te own) (gDc gi gg gc gk ge own) := by
  intro σ H δ μ Q R rm rs q f
  refine hi σ H δ μ _ _ rm rs q fun J items H1 μ1 k1 rm1 wk q1 => ?_
  intro D nD
  obtain ⟨Iv, h0, hstep, hend⟩ := q1.ex D (rm1.free nD)
  have kc : Kp H1 μ1 (upd H1 D (.dK [])) (put μ1 D (.dct [])) := Kp.cell nD
  refine dc_it wk (fun i H => ∃ μ, Kp H1 μ1 H μ ∧ RM K H μ ∧ Iv i μ) ⟨_, kc, rm1.cellD nD (by unfold RepK; rfl), h0⟩ (fun i H _ ⟨μ, k, rm, _⟩ => ⟨μ, k, rm⟩) ?_ ?_
  · rintro i x H2 H3 hi2 ⟨μ2, k2, rm2, iv⟩ y
    obtain ⟨d, e1, r1, k3, rm3⟩ := y μ2 k2 rm2
    have rsw : RepS K H3 μ2 (wiped δ own) (L2.wipe σ own) := (rs.mono (k1.trans (k2.trans k3))).wipe own
    refine sg x d _ H3 _ μ2 _ _ rm3 rsw r1 (hstep i d μ2 e1 iv) fun σ4 δ4 rs4 q4 w4 => ⟨(w4 own ho).trans wipe_wipe, ?_⟩
    refine hc σ4 H3 δ4 μ2 _ _ rm3 rs4 q4 fun b H5 μ5 k5 rm5 q5 => ?_
    cases b with
    | false => exact ⟨μ5, k2.trans (k3.trans k5), rm5, q5⟩
    | true =>
      rw [if_pos rfl] at q5 ⊢
      refine hk σ4 H5 δ4 μ5 _ _ rm5 (rs4.mono k5) q5 fun vk dk H6 μ6 k6 rm6 r6 q6 => ?_
      refine he σ4 H6 δ4 μ6 _ _ rm6 (rs4.mono (k5.trans k6)) q6 fun v d7 H7 μ7 k7 rm7 r7 q7 => ?_
      obtain ⟨kvs, k, ek, ea, hl, iv7⟩ := q7
      obtain ⟨kv, h1, h2⟩ := rm7 D _ ea
      refine ⟨kv, k, key_rep ek r6, h1, by rw [h2.length]; exact hl, _, k2.trans (k3.trans (k5.trans (k6.trans (k7.trans (Kp.write ea))))), ?_, iv7⟩
      refine rm7.put (Kp.write ea) (fun a o n _ => upd_ne n) ⟨_, upd_same, ?_⟩
      exact (h2.put r7).mono (Kp.write ea) _ _
  · rintro H2 ⟨μ2, k2, rm2, iv⟩
    exact f (.ref D) (.adr D) H2 μ2 (k1.trans k2) rm2 (by unfold Rep; rfl) (hend μ2 iv)
theorem de_dc {X : Cx} {kx vx tg iter : Expr} {ifs : List Expr} {scope : Scope} {own : List (Str × Nat)} {pos : Pos} {gi : GI} {g : TG} {gg : GG} {ow : List Nat} {gc : GT} {gk ge : GE} (hc : X.calm = true) (hN : X.N.Nodup) (hi : DI X tg iter gi) (ok : BlkOk X.N X.env.scope scope own)
    (hg : ∀ (s : Shared) (H : Hp) (C : Addr) (cl : List (Str × Addr)) (fp : List Addr), PG (X.blk s H scope (compEnvC scope cl C X.env) fp) tg g) (sg : SimG X.K g gg ow) (ht : ∀ (s : Shared) (H : Hp) (C : Addr) (cl : List (Str × Addr)) (fp : List Addr), DTs (X.blk s H scope (compEnvC scope cl C X.env) fp) ifs gc)
    (hk : ∀ (s : Shared) (H : Hp) (C : Addr) (cl : List (Str × Addr)) (fp : List Addr), DE (X.blk s H scope (compEnvC scope cl C X.env) fp) kx gk)
    (he : ∀ (s : Shared) (H : Hp) (C : Addr) (cl : List (Str × Addr)) (fp : List Addr), DE (X.blk s H scope (compEnvC scope cl C X.env) fp) vx ge) (ho : ∀ i ∈ ow, i ∈ own.map (·.2) := by decide) (hs : ∀ x, foldedSetIterable iter X.env x = pure x := by intro _; rfl) :
    DE X (.DictComp kx vx [⟨tg, iter, ifs, 0⟩] scope pos) (gDc gi gg gc gk ge (own.map (·.2))) := by
  obtain ⟨ti, i1, i2⟩ := hi.ex
  exact ⟨_, pe_dc hc hN i1 ok hg (fun s H C cl fp => (ht s H C cl fp).pt) (fun s H C cl fp => (hk s H C cl fp).pe) (fun s H C cl fp => (he s H C cl fp).pe) hs, sim_dc i2 sg ho simT_of sim_of sim_of⟩
/-! ### tuple(d.values()) -/
end DL
set_option Elab.async false
set_option linter.all false
set_option maxRecDepth 100000
namespace K10
open PySem PySem.Spec PyProof.Rows L2 DL
section
variable {P : Program} {w : World} {K : PySem.W.Frag} {mg : Str → Option Value} {base : Heap} {A : Ad}
/-! ### pieces -/
def kS (c : Nat) : Key := Sum.inr (sg c)
theorem key_sg (c : Nat) : keyOf (.str (sg c)) = some (kS c) := rfl
/-! ### rings and bonds, as the program tells them -/
def g_is_ring_lot (C : Addr) : GC := fun ds μ R => ∃ (p : List Nat) (ts : List Str) (lot : List Nat), ds = [dWeb C p ts, dLot lot] ∧ OkWeb p ts ∧ lot.length ≤ 11 ∧ (∀ i ∈ lot, i < ts.length) ∧ R (.bl (ringB p ts lot)) μ
def N42 : List Str := ["web", "lot", "index"]
theorem sc42 : FnScope N42 ["web", "lot"] (defScope (top 42)) := ⟨rfl, rfl, rfl, by decide +kernel, rfl, by decide +kernel, by decide +kernel⟩
theorem ok_is_ring_lot (T : Tx K mg A) : FnOk P w K mg base CX0 5 A.is_ring_lot A.fd_is_ring_lot ["web", "lot"] (toSp K (g_is_ring_lot A.Web)) := by
  refine okD T.F_is_ring_lot sc42 (fun ds μ R h => ?_) ⟨_, fun cdv A0 outer s H E hr =>
    (dss_cons (ds_if (dt_cmp (op_neA hr.units) sim_ne (de_call ((ok_spare_of T).mono (by decide)) hr (by rfl) T.g_spare_of T.F_spare_of.kp T.b_spare_of (da_cons (dv 0) (da_cons (dv 1) da_nil))) de_int (nomark _)) (dss_one (ds_ret de_bl)) dss_nil)
      (dss_one (ds_ret (de_callB (cr_all (by rfl)) sim_all (by rfl) T.z_all boot_all (da_cons (de_lc (own := [("index", 2)]) (by rfl) sc42.nd (di_both (dv 1)) (blkOk_by (N := N42) (own := [("index", 2)]) (sc := defScope (top 42)) (by decide +kernel)) (fun _ _ _ _ _ => (pg_name (i := 2) sc42.nd rfl (by first | exact Or.inl rfl | exact Or.inr rfl))) (sim_nm (i := 2)) (fun _ _ _ _ _ => dts_nil) (fun _ _ _ _ _ => (de_cmp (op_eqA hr.units) sim_eq (de_call ((ok_spare_of T).mono (by decide)) hr (by rfl) T.g_spare_of T.F_spare_of.kp T.b_spare_of (da_cons (dv 0) (da_cons (de_call ((ok_without T).mono (by decide)) hr (by rfl) T.g_without T.F_without.kp T.b_without (da_cons (dv 1) (da_cons (dv 2) da_nil))) da_nil))) de_int (nomark _)))) da_nil))))), fun ds μ R h => ?_⟩
  · obtain ⟨p, ts, lot, rfl, _⟩ := h
    rfl
  · obtain ⟨p, ts, lot, rfl, ok, l11, hl, h⟩ := h
    refine ⟨p, ts, lot, rfl, ok, hl, ?_⟩
    refine if_case (c := !decide ((lot.length : Int) - (rankOf p ts lot : Nat) = 1)) (fun e => ?_) (fun e => ?_)
    · have e : ¬ (lot.length : Int) - (rankOf p ts lot : Nat) = 1 := by simpa using e
      unfold ringB at h
      rw [decide_eq_false (by omega), Bool.false_and] at h
      exact h
    · have e : (lot.length : Int) - (rankOf p ts lot : Nat) = 1 := by simpa using e
      unfold ringB at h
      rw [decide_eq_true (by omega), Bool.true_and] at h
      show LcB _ _ _ _ _ _ _ _
      refine lcb_map (fun d => match d with | .int j => .bl (decide ((wout lot j.toNat).length = rankOf p ts (wout lot j.toNat))) | d => d) ?_ ?_ ?_
      · rw [List.length_map, List.length_map, sizeLine_eq]
        omega
      · intro x hx μ2 Y _ hy
        obtain ⟨j, hj, rfl⟩ := items_lot hx
        refine ⟨lot, j, rfl, by omega, ?_⟩
        refine ⟨p, ts, wout lot j, rfl, ok, fun i hi => hl i (wout_mem.mp hi).1, ?_⟩
        have e : (decide (((wout lot j).length : Int) - (rankOf p ts (wout lot j) : Nat) = 0)) = decide ((wout lot j).length = rankOf p ts (wout lot j)) := decide_eq_decide.mpr ⟨fun h => by omega, fun h => by omega⟩
        show Y (.bl (decide (((wout lot j).length : Int) - (rankOf p ts (wout lot j) : Nat) = 0))) μ2
        rw [e]
        exact hy
      · refine ⟨lot.map fun k => decide ((wout lot k).length = rankOf p ts (wout lot k)), ?_, ?_⟩
        · rw [List.map_map, List.map_map, List.map_map]
          rfl
        · show R (.bl ((lot.map _).all id)) μ
          rw [List.all_map]
          exact h
end
end K10
set_option Elab.async false
set_option linter.all false
set_option maxRecDepth 100000
namespace K10
open PySem PySem.Spec PyProof.Rows L2 DL
section
variable {P : Program} {w : World} {K : PySem.W.Frag} {mg : Str → Option Value} {base : Heap} {A : Ad}
/-! ### bonds, rings and bonds listed, woods and holds -/
/-- lots of one kind, ascending -/
structure Listed (q : List Nat → Bool) (n : Nat) (out : List (List Nat)) : Prop where
  perm : out.Perm ((lotsL n).filter q)
  asc : out.Pairwise (fun a b => ltN b a = false)
theorem Listed.mem {q : List Nat → Bool} {n : Nat} {out : List (List Nat)} (h : Listed q n out) {v : List Nat} : v ∈ out ↔ v ∈ lotsL n ∧ q v = true := by
  rw [h.perm.mem_iff, List.mem_filter]
theorem Listed.few {q : List Nat → Bool} {n : Nat} {out : List (List Nat)} (h : Listed q n out) (hn : n ≤ 11) : out.length ≤ 2048 := by
  have h1 := h.perm.length_eq
  have h2 := List.length_filter_le q (lotsL n)
  have h3 := pow_few hn
  rw [lots_few] at h2
  omega
theorem Listed.one {q : List Nat → Bool} {n : Nat} {out out' : List (List Nat)} (h : Listed q n out) (k : Listed q n out') : out = out' :=
  (h.perm.trans k.perm.symm).eq_of_pairwise (fun _ _ _ _ a b => ltN_anti _ _ b a) h.asc k.asc
theorem sort_lots {q : List Nat → Bool} {n : Nat} (q0 : q [] = false) {μ : Mu} {R : KD} (h : ∀ out, Listed q n out → R (.lst (out.map dLot)) μ) : sortI (((lotsL n).filter q).map dLot) μ R := by
  refine ⟨((lotsL n).filter q).map (fun u => u.map Int.ofNat), by rw [List.map_map]; rfl, .inl fun ns hns => ?_, fun out hp hw => ?_⟩
  · obtain ⟨u, hu, rfl⟩ := List.mem_map.mp hns
    intro e
    rw [List.map_eq_nil_iff] at e
    rw [e] at hu
    have := (List.mem_filter.mp hu).2
    rw [q0] at this
    cases this
  · obtain ⟨L', p', rfl⟩ := perm_map hp
    have hw' : L'.Pairwise (fun a b => ltN b a = false) := List.pairwise_map.mp hw
    have := h L' ⟨p', hw'⟩
    show R (.lst ((L'.map (fun u => u.map Int.ofNat)).map dI)) μ
    rw [List.map_map]
    exact this
theorem ring_nil (p : List Nat) (ts : List Str) : ringB p ts [] = false := by
  unfold ringB
  rw [decide_eq_false (by show ¬ 0 = _ + 1; omega)]
  rfl
theorem lots_filtered {n : Nat} {q : List Nat → Bool} (f : D → Bool) (h : ∀ u, f (dLot u) = q u) : ((lotsL n).map dLot).filter f = ((lotsL n).filter q).map dLot := by
  rw [List.filter_map]
  congr 1
  exact List.filter_congr fun u _ => h u
def g_rings (C : Addr) : GC := fun ds μ R => ∃ (p : List Nat) (ts : List Str), ds = [dWeb C p ts] ∧ OkWeb p ts ∧ ∀ out, Listed (ringB p ts) ts.length out → R (.tup (out.map dLot)) μ
def N43 : List Str := ["web", "lot"]
theorem sc43 : FnScope N43 ["web"] (defScope (top 43)) := ⟨rfl, rfl, rfl, by decide +kernel, rfl, by decide +kernel, by decide +kernel⟩
theorem ok_rings (T : Tx K mg A) : FnOk P w K mg base CX0 7 A.rings A.fd_rings ["web"] (toSp K (g_rings A.Web)) := by
  refine okD T.F_rings sc43 (fun ds μ R h => ?_) ⟨_, fun cdv A0 outer s H E hr =>
    (dss_cons (ds_expr (de_call ((ok_check_web T).mono (by decide)) hr (by rfl) T.g_check_web T.F_check_web.kp T.b_check_web (da_cons (dv 0) da_nil)))
      (dss_one (ds_ret (de_callTy call_tuple_of sim_tuple (by rfl) T.z_tuple boot_tuple (da_cons (de_callB (cr_sortI hr.units) sim_sortI (by rfl) T.z_sorted boot_sorted (da_cons (de_lc (own := [("lot", 1)]) (by rfl) sc43.nd (di_both (de_call ((ok_all_lots T).mono (by decide)) hr (by rfl) T.g_all_lots T.F_all_lots.kp T.b_all_lots (da_cons (dv 0) da_nil))) (blkOk_by (N := N43) (own := [("lot", 1)]) (sc := defScope (top 43)) (by decide +kernel)) (fun _ _ _ _ _ => (pg_name (i := 1) sc43.nd rfl (by first | exact Or.inl rfl | exact Or.inr rfl))) (sim_nm (i := 1)) (fun _ _ _ _ _ => (dts_one (dt_val (de_call ((ok_is_ring_lot T).mono (by decide)) hr (by rfl) T.g_is_ring_lot T.F_is_ring_lot.kp T.b_is_ring_lot (da_cons (dv 0) (da_cons (dv 1) da_nil)))))) (fun _ _ _ _ _ => (dv 1))) da_nil)) da_nil))))), fun ds μ R h => ?_⟩
  · obtain ⟨p, ts, rfl, _⟩ := h
    rfl
  · obtain ⟨p, ts, rfl, ok, h⟩ := h
    have few := ok.many
    have l4 : (lotsL ts.length).length ≤ 2048 := by rw [lots_few]; exact pow_few few
    refine ⟨p, ts, rfl, ?_⟩
    refine ⟨p, ts, rfl, ok, ?_⟩
    show LcB _ _ _ _ _ _ _ _
    refine lcb_pure (fun d => ringB p ts (lotOf d)) id ?_ ?_ ?_
    · rw [List.length_map, sizeLine_eq]
      omega
    · intro x hx μ2 N Y _ hN hY
      obtain ⟨u, hu, rfl⟩ := List.mem_map.mp hx
      obtain ⟨u1, u2, _⟩ := lots_in _ u hu
      refine ⟨p, ts, u, rfl, ok, by omega, u1, ?_⟩
      have e : ringB p ts (lotOf (dLot u)) = ringB p ts u := by rw [lotOf_dLot]
      rw [e] at hN hY
      exact if_case (c := ringB p ts u) (fun e => hY e) (fun e => hN e)
    · rw [lots_filtered (q := ringB p ts) _ (fun u => by rw [lotOf_dLot]), List.map_id]
      show sortI (((lotsL ts.length).filter (ringB p ts)).map dLot) μ fun x μ1 => gTuple1 x μ1 R
      refine sort_lots (ring_nil p ts) fun out ho => ?_
      exact h out ho
/-! ### the law's own lots -/
end
end K10
set_option Elab.async false
set_option linter.all false
set_option maxRecDepth 100000
namespace DL
open PySem PySem.Spec PyProof.Rows L2
/-! ### sorted of a tuple of whole numbers -/
end DL
set_option Elab.async false
set_option linter.all false
set_option maxRecDepth 100000
set_option Elab.async false
set_option linter.all false
set_option maxRecDepth 100000
namespace DL
open PySem PySem.Spec PyProof.Rows L2
/-! ### a, b = a text of two signs, the names caught by a comprehension or not -/
/-! ### == of two instances whose class has an __eq__ of its own -/
def rEqI (C : Addr) (sp : Sp) : R2 := fun x y H Q => ∃ a b dx dy fs gs, x = .ref a ∧ y = .ref b ∧ H a = some (.ins C dx fs) ∧ H b = some (.ins C dy gs) ∧ sp [.ref a, .ref b] H (fun v H' => ∃ c, v = .bl c ∧ Q (.bl c) H') E0
theorem op_eqI {X : Cx} {k : Nat} {f C : Addr} {fd : FuncData} {sp : Sp} {ps : List Str} (F : FnOk X.prog X.w X.K X.mg X.base CX0 k f fd ps sp) (hr : Room (k + 1) X.A) (hb : Binds X.K fd ps []) (hl : ps.length = 2)
    (hs : PySem.W.findIn X.K (.ref C) "__eq__" = some (some (.ref f))) (hf : PySem.W.isFn X.K (.ref f) = true) : OpR X (compareOp .Eq) (rEqI C sp) := by
  intro pins s σ H x y v u Q I rx ry hq
  obtain ⟨a, b, dx, dy, fs, gs, rfl, rfl, ha, hb', q⟩ := hq
  cases rx
  cases ry
  obtain ⟨mA, J, _⟩ := ins_get I.hok ha
  obtain ⟨mB, J', _⟩ := ins_get I.hok hb'
  obtain ⟨od, J, _⟩ := J.look
  obtain ⟨od', J', _⟩ := J'.look
  obtain ⟨m, hF⟩ := I.fr
  show wpAny (model X.prog X.w) X.A (richCompare .Eq (.ref a) (.ref b)) (EP X pins σ Q) X.xe s
  refine PySem.W.cmp_K (op := .Eq) (tb := .ref C) (by have := hr.units; omega) hF I.ok.mod.kin J J'.type (by simp [PySem.W.notFirst]) hs hf ?_
  have r2 : Vals [V.ref a, V.ref b] [Value.ref a, Value.ref b] := .cons rfl (.cons rfl .nil)
  have hl2 : ([Value.ref a, Value.ref b] ++ []).length = ps.length := by rw [hl]; rfl
  refine wpAny_call (codeAny_mono (F.run X.A X.stack s H ⟨[.ref a, .ref b], []⟩ [.ref a, .ref b] [.ref a, .ref b] _ E0 (hr.mono (by omega)) I.env0 (by have := hb s [.ref a, .ref b] I.kIn hl2; rwa [List.append_nil] at this) r2 q) fun r s' hq => ?_)
  cases r with
  | error e => exact pass0 (X := X) pins σ H s e s' I hq
  | ok fl =>
    cases fl with
    | ret w =>
      obtain ⟨z, H', I', rz, c, rfl, q'⟩ := I.after hq
      cases rz
      exact ⟨.bl c, H', I', rfl, q'⟩
    | next => exact False.elim hq
    | brk => exact False.elim hq
    | cont => exact False.elim hq
def gEqI (C : Addr) (g : GC) : G2 := fun x y μ R => ∃ fs gs, x = .ins C fs ∧ y = .ins C gs ∧ g [x, y] μ fun d μ' => ∃ c, d = .bl c ∧ R (.bl c) μ'
theorem sim_eqI {K : PySem.W.Frag} {C : Addr} {g : GC} : SimO K (rEqI C (toSp K g)) (gEqI C g) := by
  intro x y dx dy H μ Q R rm rx ry q f
  obtain ⟨fs, gs, rfl, rfl, q⟩ := q
  have rx0 := rx
  have ry0 := ry
  obtain ⟨a, dxa, va, rfl, ea, na, rfa⟩ := rep_ins rx
  obtain ⟨b, dxb, vb, rfl, eb, nb, rfb⟩ := rep_ins ry
  refine ⟨a, b, dxa, dxb, va, vb, rfl, rfl, ea, eb, [.ins C fs, .ins C gs], μ, _, rm, RepL.cons rx0 (RepL.cons ry0 RepL.nil), q, fun w d' H' μ' kp rm' r' q' => ?_⟩
  obtain ⟨c, rfl, q'⟩ := q'
  have e : w = .bl c := by
    unfold Rep at r'
    exact r'
  subst e
  exact ⟨c, rfl, f _ _ H' μ' kp rm' to_bl q'⟩
end DL
set_option Elab.async false
set_option linter.all false
set_option maxRecDepth 100000
namespace DL
open PySem PySem.Spec PyProof.Rows L2
/-! ### data that can be compared -/
structure Lay (d : D) (p : PyData) (n : Nat) : Prop where
  py : DL.py d = some p
  lay : p.canLay0 = true
  dep : p.depth ≤ n
structure LayL (ds : List D) (ps : List PyData) (n : Nat) : Prop where
  py : DL.pyL ds = some ps
  lay : PyData.canLayAll0 ps = true
  dep : PyData.depthAll ps ≤ n
theorem lay_int (i : Int) (n : Nat) : Lay (.int i) (.int i) n := ⟨by unfold DL.py; rfl, by unfold PyData.canLay0; rfl, by unfold PyData.depth; omega⟩
theorem lay_str {x : Str} (h : x.cps.all (· < 0x110000) = true) (n : Nat) : Lay (.str x) (.str x) n := ⟨by unfold DL.py; rfl, by unfold PyData.canLay0; exact h, by unfold PyData.depth; omega⟩
theorem layL_nil (n : Nat) : LayL [] [] n := ⟨by unfold DL.pyL; rfl, by unfold PyData.canLayAll0; rfl, by unfold PyData.depthAll; omega⟩
theorem layL_cons {d : D} {p : PyData} {ds : List D} {ps : List PyData} {n : Nat} (h : Lay d p n) (k : LayL ds ps n) : LayL (d :: ds) (p :: ps) n := by
  refine ⟨?_, ?_, ?_⟩
  · unfold DL.pyL
    rw [h.py, k.py]
  · unfold PyData.canLayAll0
    rw [h.lay, k.lay]
    rfl
  · unfold PyData.depthAll
    have := h.dep
    have := k.dep
    omega
theorem lay_tup {ds : List D} {ps : List PyData} {n : Nat} (k : LayL ds ps n) : Lay (.tup ds) (.tuple ps) (n + 1) := by
  refine ⟨?_, ?_, ?_⟩
  · unfold DL.py
    rw [k.py]
    rfl
  · unfold PyData.canLay0
    exact k.lay
  · unfold PyData.depth
    have := k.dep
    omega
theorem lay_lst {ds : List D} {ps : List PyData} {n : Nat} (k : LayL ds ps n) : Lay (.lst ds) (.list ps) (n + 1) := by
  refine ⟨?_, ?_, ?_⟩
  · unfold DL.py
    rw [k.py]
    rfl
  · unfold PyData.canLay0
    exact k.lay
  · unfold PyData.depth
    have := k.dep
    omega
theorem layL_map {α : Type} {f : α → D} {g : α → PyData} {n : Nat} : ∀ {l : List α}, (∀ x ∈ l, Lay (f x) (g x) n) → LayL (l.map f) (l.map g) n
  | [], _ => layL_nil n
  | a :: l, h => layL_cons (h a List.mem_cons_self) (layL_map fun x hx => h x (List.mem_cons_of_mem _ hx))
theorem Lay.shaped {d : D} {p : PyData} {n : Nat} (h : Lay d p n) (hn : n ≤ 64) : SeqAt.shaped p = true := by
  unfold SeqAt.shaped
  rw [h.lay, decide_eq_true (Nat.le_trans h.dep hn)]
  rfl
theorem Lay.cmp {d d' : D} {p p' : PyData} {n m : Nat} (h : Lay d p n) (h' : Lay d' p' m) (hn : n ≤ 64) (hm : m ≤ 64) {k : Bool → Bool} {μ : Mu} {R : KD} (q : R (.bl (k (PyData.eqv p p'))) μ) : gEqD k d d' μ R :=
  ⟨p, p', h.py, h'.py, h.shaped hn, h'.shaped hm, q⟩
/-- compared with itself -/
theorem Lay.same {d : D} {p : PyData} {n : Nat} (h : Lay d p n) (hn : n ≤ 64) {k : Bool → Bool} {μ : Mu} {R : KD} (q : R (.bl (k true)) μ) : gEqD k d d μ R :=
  h.cmp h hn hn (by rw [SeqAt.eqv_refl _ h.lay]; exact q)
theorem eqv_nil (ps : List PyData) : PyData.eqv (.list ps) (.list []) = decide (ps = []) := by
  cases ps with
  | nil => rw [decide_eq_true rfl]; unfold PyData.eqv PyData.eqvAll; rfl
  | cons p ps => rw [decide_eq_false (List.cons_ne_nil _ _)]; unfold PyData.eqv PyData.eqvAll; rfl
/-- a list compared with the empty one -/
theorem LayL.none {ds : List D} {ps : List PyData} {n : Nat} (h : LayL ds ps n) (hn : n + 1 ≤ 64) {k : Bool → Bool} {μ : Mu} {R : KD} (q : R (.bl (k (decide (ds = [])))) μ) : gEqD k (.lst ds) (.lst []) μ R := by
  refine (lay_lst h).cmp (lay_lst (layL_nil 0)) hn (by omega) ?_
  rw [eqv_nil]
  have e : (decide (ps = [])) = decide (ds = []) := by
    refine decide_eq_decide.mpr ?_
    have p := h.py
    cases ds with
    | nil =>
      unfold DL.pyL at p
      exact ⟨fun _ => rfl, fun _ => (Option.some.inj p).symm⟩
    | cons d ds =>
      constructor
      · intro e
        subst e
        unfold DL.pyL at p
        split at p <;> cases p
      · intro e
        cases e
  rw [e]
  exact q
/-- a lot -/
theorem layL_ints (l : List Int) (n : Nat) : LayL (l.map D.int) (l.map PyData.int) n := layL_map fun x _ => lay_int x n
end DL
set_option Elab.async false
set_option linter.all false
set_option maxRecDepth 100000
namespace DL
open PySem PySem.Spec PyProof.Rows L2
/-! ### a tuple, a list as a test -/
def gTru (g : GE) : GT := fun δ μ R => g δ μ fun d μ1 => match d with
  | .tup ds => R (!ds.isEmpty) μ1
  | .lst ds => R (!ds.isEmpty) μ1
  | _ => False
theorem dt_tru {X : Cx} {a : Expr} {g : GE} (h : DE X a g) (he : ∀ whole, isTrue a X.env whole = (do let v ← whole; standAt a.pos; holding [v] (truthy v)) := by intro _; rfl) : DT X a (gTru g) := by
  obtain ⟨t, a1, a2⟩ := h.ex
  refine ⟨_, pt_truth a1 he, fun σ H δ μ Q R rm rs q f => ?_⟩
  refine a2 σ H δ μ _ _ rm rs q fun v d H1 μ1 k1 rm1 r1 q1 => ?_
  cases d <;> try exact False.elim q1
  · rename_i ds
    obtain ⟨p, vs, rfl, im, l⟩ := rep_tup r1
    have e : vs.isEmpty = ds.isEmpty := by
      have := l.length
      cases vs <;> cases ds <;> simp_all
    exact ⟨_, .inr (.inl ⟨vs, im.sq, rfl⟩), by rw [e]; exact f _ H1 μ1 k1 rm1 q1⟩
  · rename_i ds
    obtain ⟨p, vs, rfl, i, n, l⟩ := rep_lst r1
    have e : vs.isEmpty = ds.isEmpty := by
      have := l.length
      cases vs <;> cases ds <;> simp_all
    exact ⟨_, .inl ⟨vs, SqL.of i, rfl⟩, by rw [e]; exact f _ H1 μ1 k1 rm1 q1⟩
end DL
set_option Elab.async false
set_option linter.all false
set_option exponentiation.threshold 2000
set_option maxRecDepth 100000
set_option Elab.async false
set_option linter.all false
set_option maxRecDepth 100000
set_option Elab.async false
set_option linter.all false
set_option maxRecDepth 100000
namespace K10
open PySem PySem.Spec PyProof.Rows L2 DL
section
variable {p : List Nat} {ts : List Str}
/-! ### rings through a tie; strong elimination -/
/-- a ring as what it has -/
structure Ring (p : List Nat) (ts : List Str) (c : List Nat) : Prop where
  lot : c ∈ lotsL ts.length
  ring : ringB p ts c = true
theorem Ring.few {c : List Nat} (h : Ring p ts c) : In ts c := (lots_in _ _ h.lot).1
theorem Ring.asc {c : List Nat} (h : Ring p ts c) : c.Pairwise (· < ·) := (lots_in _ _ h.lot).2.2
theorem Ring.nod {c : List Nat} (h : Ring p ts c) : c.Nodup := h.asc.imp fun h => Nat.ne_of_lt h
theorem Ring.less {c : List Nat} (h : Ring p ts c) {k : Nat} (hk : k ∈ c) : (wout c k).length = rankOf p ts (wout c k) := by
  have := h.ring
  unfold ringB at this
  rw [Bool.and_eq_true, List.all_eq_true] at this
  exact of_decide_eq_true (this.2 k hk)
/-- each tie of a ring joins what the others join -/
theorem Ring.closed (u : p.Pairwise (· ≠ ·)) (he : Ends p ts) {c : List Nat} (h : Ring p ts c) {k : Nat} (hk : k ∈ c) : partsL p ts (wout c k) k = false := by
  have h1 := rank_out u he h.few h.nod hk
  have h2 := ring_len h.ring
  have h3 := wout_len h.nod hk
  have h4 := h.less hk
  cases q : partsL p ts (wout c k) k with
  | false => rfl
  | true =>
    rw [q, if_pos rfl] at h1
    omega
theorem parts_same (u : p.Pairwise (· ≠ ·)) (he : Ends p ts) {v w : List Nat} (hv : In ts v) (hw : In ts w) (h : marksL p (tiesOf ts v) = marksL p (tiesOf ts w)) (k : Nat) : partsL p ts v k = partsL p ts w k := by
  unfold partsL
  rw [h]
/-- a tie joined by a lot is in a ring of it and ties of the lot -/
theorem ring_through (u : p.Pairwise (· ≠ ·)) (he : Ends p ts) {k : Nat} (hk : k < ts.length) : ∀ (n : Nat) (w : List Nat), w.length = n → w.Pairwise (· < ·) → In ts w → k ∉ w → partsL p ts w k = false → ∃ c, Ring p ts c ∧ k ∈ c ∧ ∀ j ∈ c, j = k ∨ j ∈ w
  | n, w, hn, hw, hi, kw, hp => by
    have nd : w.Nodup := hw.imp fun h => Nat.ne_of_lt h
    by_cases q : ∃ j ∈ w, partsL p ts (wout w j) k = false
    · obtain ⟨j, hj, hq⟩ := q
      have := wout_len nd hj
      match n, hn with
      | 0, hn => omega
      | n + 1, hn =>
        obtain ⟨c, h1, h2, h3⟩ := ring_through u he hk n (wout w j) (by omega) (wout_asc hw j) (in_wout hi j) (fun z => kw (wout_mem.mp z).1) hq
        exact ⟨c, h1, h2, fun i hx => (h3 i hx).imp id fun z => (wout_mem.mp z).1⟩
    · have q : ∀ j ∈ w, partsL p ts (wout w j) k = true := fun j hj => by
        cases e : partsL p ts (wout w j) k with
        | true => rfl
        | false => exact absurd ⟨j, hj, e⟩ q
      -- the lot is a wood
      have wood : rankOf p ts w = w.length := by
        apply Classical.byContradiction
        intro ne
        obtain ⟨r, r1, r2, r3⟩ := ring_within u he _ w rfl hw hi (fun e => ne e.symm)
        have rg : Ring p ts r := ⟨lots_all _ r r1 fun j hj => hi j (r2 j hj), r3⟩
        have rne : r ≠ [] := fun e => by
          have := ring_len r3
          rw [e] at this
          simp at this
        obtain ⟨j, hj⟩ := List.exists_mem_of_ne_nil r rne
        have hjw := r2 j hj
        have c1 : partsL p ts (wout w j) j = false := parts_mono u he (in_wout rg.few j) (in_wout hi j) (fun i hx => wout_mem.mpr ⟨r2 i (wout_mem.mp hx).1, (wout_mem.mp hx).2⟩) (hi j hjw) (rg.closed u he hj)
        have c2 : marksL p (tiesOf ts (wout w j ++ [j])) = marksL p (tiesOf ts (wout w j)) := rank_same u he _ (in_wout hi j) [j] (fun i hx => by rw [List.mem_singleton.mp hx]; exact hi j hjw) fun i hx => by rw [List.mem_singleton.mp hx]; exact c1
        have c3 : marksL p (tiesOf ts w) = marksL p (tiesOf ts (wout w j ++ [j])) := lot_marks u he hi (in_snoc (in_wout hi j) (hi j hjw)) (fun i hx => by
          by_cases e : i = j
          · exact List.mem_append.mpr (.inr (List.mem_singleton.mpr e))
          · exact List.mem_append.mpr (.inl (wout_mem.mpr ⟨hx, e⟩))) fun i hx => by
          rcases List.mem_append.mp hx with z | z
          · exact (wout_mem.mp z).1
          · rw [List.mem_singleton.mp z]; exact hjw
        have := parts_same u he hi (in_wout hi j) (c3.trans c2) k
        rw [hp, q j hjw] at this
        cases this
      -- the ring
      let c := (List.range ts.length).filter fun j => decide (j = k ∨ j ∈ w)
      have cm : ∀ j, j ∈ c ↔ j = k ∨ j ∈ w := fun j => by
        show j ∈ (List.range ts.length).filter _ ↔ _
        rw [List.mem_filter, decide_eq_true_iff, List.mem_range]
        exact ⟨fun h => h.2, fun h => ⟨h.elim (fun e => by rw [e]; exact hk) (hi j), h⟩⟩
      have ca : c.Pairwise (· < ·) := List.pairwise_lt_range.filter _
      have ci : In ts c := fun j hj => ((cm j).mp hj).elim (fun e => by rw [e]; exact hk) (hi j)
      have cn : c.Nodup := ca.imp fun h => Nat.ne_of_lt h
      have ik : In ts (w ++ [k]) := in_snoc hi hk
      have pm : c.Perm (w ++ [k]) := (List.perm_ext_iff_of_nodup cn (List.nodup_append.mpr ⟨nd, List.pairwise_singleton _ _, fun a ha b hb e => by
        rw [List.mem_singleton.mp hb] at e
        subst e
        exact kw ha⟩)).mpr fun j => by
        rw [cm, List.mem_append, List.mem_singleton]
        exact Or.comm
      have cr : rankOf p ts c = rankOf p ts w := by
        rw [lot_rank u he ci ik (fun j hj => pm.subset hj) (fun j hj => pm.symm.subset hj), rank_more u he hi hk, hp, if_neg Bool.false_ne_true]
        rfl
      have cl : c.length = w.length + 1 := by rw [pm.length_eq, List.length_append]; rfl
      have kc : k ∈ c := (cm k).mpr (.inl rfl)
      refine ⟨c, ⟨lots_all _ c ca ci, ?_⟩, kc, fun j hj => (cm j).mp hj⟩
      unfold ringB
      rw [Bool.and_eq_true]
      refine ⟨decide_eq_true (by omega), List.all_eq_true.mpr fun j hj => decide_eq_true ?_⟩
      have lj := wout_len cn hj
      rcases (cm j).mp hj with e | hjw
      · subst e
        have : rankOf p ts (wout c j) = rankOf p ts w := lot_rank u he (in_wout ci j) hi (fun i hx => ((cm i).mp (wout_mem.mp hx).1).resolve_left (wout_mem.mp hx).2) fun i hx => wout_mem.mpr ⟨(cm i).mpr (.inr hx), fun e => kw (e ▸ hx)⟩
        omega
      · have jk : j ≠ k := fun e => kw (e ▸ hjw)
        have ij : In ts (wout w j ++ [k]) := in_snoc (in_wout hi j) hk
        have e1 : rankOf p ts (wout c j) = rankOf p ts (wout w j ++ [k]) := lot_rank u he (in_wout ci j) ij (fun i hx => by
          obtain ⟨h1, h2⟩ := wout_mem.mp hx
          rcases (cm i).mp h1 with e | z
          · exact List.mem_append.mpr (.inr (List.mem_singleton.mpr e))
          · exact List.mem_append.mpr (.inl (wout_mem.mpr ⟨z, h2⟩))) fun i hx => by
          rcases List.mem_append.mp hx with z | z
          · exact wout_mem.mpr ⟨(cm i).mpr (.inr (wout_mem.mp z).1), (wout_mem.mp z).2⟩
          · rw [List.mem_singleton.mp z]
            exact wout_mem.mpr ⟨kc, fun e => jk e.symm⟩
        have e2 := rank_more u he (in_wout hi j) hk
        rw [q j hjw, if_pos rfl] at e2
        have e3 := rank_out u he hi nd hjw
        have e4 := wout_len nd hjw
        have e5 := rank_len u he _ (in_wout hi j)
        split at e3 <;> omega
/-- strong elimination -/
theorem ring_swap (u : p.Pairwise (· ≠ ·)) (he : Ends p ts) {c d : List Nat} (hc : Ring p ts c) (hd : Ring p ts d) {e f : Nat} (ec : e ∈ c) (ed : e ∈ d) (fc : f ∈ c) (fd : f ∉ d) :
    ∃ r, Ring p ts r ∧ f ∈ r ∧ ∀ j ∈ r, (j ∈ c ∨ j ∈ d) ∧ j ≠ e := by
  let w := (List.range ts.length).filter fun j => decide ((j ∈ c ∨ j ∈ d) ∧ j ≠ e ∧ j ≠ f)
  have wm : ∀ j, j ∈ w ↔ (j ∈ c ∨ j ∈ d) ∧ j ≠ e ∧ j ≠ f := fun j => by
    show j ∈ (List.range ts.length).filter _ ↔ _
    rw [List.mem_filter, decide_eq_true_iff, List.mem_range]
    exact ⟨fun h => h.2, fun h => ⟨h.1.elim (hc.few j) (hd.few j), h⟩⟩
  have wi : In ts w := fun j hj => ((wm j).mp hj).1.elim (hc.few j) (hd.few j)
  have ef : e ≠ f := fun z => fd (z ▸ ed)
  have he1 : partsL p ts w e = false := parts_mono u he (in_wout hd.few e) wi (fun j hj => by
    obtain ⟨h1, h2⟩ := wout_mem.mp hj
    exact (wm j).mpr ⟨.inr h1, h2, fun z => fd (z ▸ h1)⟩) (hd.few e ed) (hd.closed u he ed)
  have he2 : marksL p (tiesOf ts (w ++ [e])) = marksL p (tiesOf ts w) := rank_same u he w wi [e] (fun i hx => by rw [List.mem_singleton.mp hx]; exact hd.few e ed) fun i hx => by rw [List.mem_singleton.mp hx]; exact he1
  have we : In ts (w ++ [e]) := in_snoc wi (hd.few e ed)
  have hf1 : partsL p ts (w ++ [e]) f = false := parts_mono u he (in_wout hc.few f) we (fun j hj => by
    obtain ⟨h1, h2⟩ := wout_mem.mp hj
    by_cases z : j = e
    · exact List.mem_append.mpr (.inr (List.mem_singleton.mpr z))
    · exact List.mem_append.mpr (.inl ((wm j).mpr ⟨.inl h1, z, h2⟩))) (hc.few f fc) (hc.closed u he fc)
  have hf2 : partsL p ts w f = false := by rw [← parts_same u he we wi he2 f]; exact hf1
  obtain ⟨r, h1, h2, h3⟩ := ring_through u he (hc.few f fc) _ w rfl (List.pairwise_lt_range.filter _) wi (fun z => ((wm f).mp z).2.2 rfl) hf2
  refine ⟨r, h1, h2, fun j hj => ?_⟩
  rcases h3 j hj with z | z
  · rw [z]; exact ⟨.inl fc, fun q => ef q.symm⟩
  · exact ⟨((wm j).mp z).1, ((wm j).mp z).2.1⟩
theorem wout_nod {c : List Nat} (h : c.Nodup) (e : Nat) : (wout c e).Nodup := h.filter _
/-- rings that meet join their ties in one -/
theorem rings_meet (u : p.Pairwise (· ≠ ·)) (he : Ends p ts) : ∀ (n : Nat) (c d : List Nat) (a b : Nat), ((List.range ts.length).filter fun j => decide (j ∈ c ∨ j ∈ d)).length = n → Ring p ts c → Ring p ts d → a ∈ c → b ∈ d → (∃ e, e ∈ c ∧ e ∈ d) → ∃ r, Ring p ts r ∧ a ∈ r ∧ b ∈ r
  | n, c, d, a, b, hn, hc, hd, ac, bd, ⟨e, ec, ed⟩ => by
    by_cases ad : a ∈ d
    · exact ⟨d, hd, ad, bd⟩
    by_cases bc : b ∈ c
    · exact ⟨c, hc, ac, bc⟩
    obtain ⟨r, r1, r2, r3⟩ := ring_swap u he hc hd ec ed ac ad
    by_cases br : b ∈ r
    · exact ⟨r, r1, r2, br⟩
    -- r is not within c
    have : ∃ g, g ∈ r ∧ g ∉ c := by
      apply Classical.byContradiction
      intro z
      have z : ∀ g ∈ r, g ∈ c := fun g hg => Classical.byContradiction fun q => z ⟨g, hg, q⟩
      have s : ∀ g ∈ r, g ∈ wout c e := fun g hg => wout_mem.mpr ⟨z g hg, (r3 g hg).2⟩
      have h1 := spare_mono u he r1.nod (wout_nod hc.nod e) (in_wout hc.few e) s
      have h2 := ring_len r1.ring
      have h3 := hc.less ec
      omega
    obtain ⟨g, gr, gc⟩ := this
    have gd : g ∈ d := (r3 g gr).1.resolve_left gc
    obtain ⟨s, s1, s2, s3⟩ := ring_swap u he hd r1 gd gr bd br
    -- s meets c, and lies within c and d without g
    have sub : ∀ j ∈ s, (j ∈ c ∨ j ∈ d) ∧ j ≠ g := fun j hj => ⟨(s3 j hj).1.elim .inr fun z => (r3 j z).1, (s3 j hj).2⟩
    have meets : ∃ x, x ∈ c ∧ x ∈ s := by
      apply Classical.byContradiction
      intro z
      have z : ∀ j ∈ s, j ∈ wout d g := fun j hj => wout_mem.mpr ⟨(sub j hj).1.resolve_left fun q => z ⟨j, q, hj⟩, (sub j hj).2⟩
      have h1 := spare_mono u he s1.nod (wout_nod hd.nod g) (in_wout hd.few g) z
      have h2 := ring_len s1.ring
      have h3 := hd.less gd
      omega
    have less : ((List.range ts.length).filter fun j => decide (j ∈ c ∨ j ∈ s)).length < ((List.range ts.length).filter fun j => decide (j ∈ c ∨ j ∈ d)).length := by
      have nd : ((List.range ts.length).filter fun j => decide (j ∈ c ∨ j ∈ d)).Nodup := List.nodup_range.filter _
      have gm : g ∈ (List.range ts.length).filter fun j => decide (j ∈ c ∨ j ∈ d) := List.mem_filter.mpr ⟨List.mem_range.mpr (hd.few g gd), decide_eq_true (.inr gd)⟩
      have w1 := wout_len nd gm
      have := nodup_le (l := (List.range ts.length).filter fun j => decide (j ∈ c ∨ j ∈ s)) (m := wout ((List.range ts.length).filter fun j => decide (j ∈ c ∨ j ∈ d)) g) (List.nodup_range.filter _) fun x hx => by
        obtain ⟨x1, x2⟩ := List.mem_filter.mp hx
        have x2 := of_decide_eq_true x2
        refine wout_mem.mpr ⟨List.mem_filter.mpr ⟨x1, decide_eq_true (x2.elim .inl fun z => (sub x z).1)⟩, fun e => ?_⟩
        rcases x2 with z | z
        · exact gc (e ▸ z)
        · exact (sub x z).2 e
      omega
    exact rings_meet u he _ c s a b rfl hc s1 ac s2 meets
termination_by n => n
decreasing_by omega
/-- two ties in one ring, or the same -/
def Linked (p : List Nat) (ts : List Str) (a b : Nat) : Prop := a = b ∨ ∃ r, Ring p ts r ∧ a ∈ r ∧ b ∈ r
theorem Linked.symm {a b : Nat} (h : Linked p ts a b) : Linked p ts b a := h.imp Eq.symm fun ⟨r, h1, h2, h3⟩ => ⟨r, h1, h3, h2⟩
theorem Linked.trans (u : p.Pairwise (· ≠ ·)) (he : Ends p ts) {a b c : Nat} (h : Linked p ts a b) (k : Linked p ts b c) : Linked p ts a c := by
  rcases h with e | ⟨r, r1, r2, r3⟩
  · rw [e]; exact k
  rcases k with e | ⟨s, s1, s2, s3⟩
  · rw [← e]; exact .inr ⟨r, r1, r2, r3⟩
  exact .inr (rings_meet u he _ r s a c rfl r1 s1 r2 s3 ⟨b, r3, s2⟩)
/-! ### what no ring crosses parts the ranks -/
end
end K10
set_option Elab.async false
set_option linter.all false
set_option maxRecDepth 100000
namespace K10
open PySem PySem.Spec PyProof.Rows L2 DL
/-! ### sums over the parts of a list -/
section
variable {α : Type}
def sm (f : List α → Int) : List α → Int
  | [] => f []
  | a :: l => sm f l + sm (fun s => f (a :: s)) l
end
/-! ### the value's top, over a lot of ties -/
def tm (ρ : List Nat → Nat) (r l : Nat) (x b y v : Int) (s : List Nat) : Int := x ^ (r - ρ s) * b ^ ρ s * (y ^ (s.length - ρ s) * v ^ ((l - r) - (s.length - ρ s)))
def gt (ρ : List Nat → Nat) (x b y v : Int) (T : List Nat) : Int := sm (tm ρ (ρ T) T.length x b y v) T
end K10
set_option Elab.async false
set_option linter.all false
set_option maxRecDepth 100000
namespace K10
open PySem PySem.Spec PyProof.Rows L2 DL
section
variable {p : List Nat} {ts : List Str}
/-! ### blocks -/
structure BMarks (p : List Nat) (ts : List Str) (f : Nat → Nat) : Prop where
  iff : ∀ j k, j < ts.length → k < ts.length → (f j = f k ↔ Linked p ts j k)
  le : ∀ k, k < ts.length → f k ≤ k
  idem : ∀ k, k < ts.length → f (f k) = f k
theorem BMarks.one {f g : Nat → Nat} (hf : BMarks p ts f) (hg : BMarks p ts g) : ∀ k, k < ts.length → f k = g k := by
  have half : ∀ {f g : Nat → Nat}, BMarks p ts f → BMarks p ts g → ∀ k, k < ts.length → g k ≤ f k := fun {f g} hf hg k hk => by
    have l := hf.le k hk
    have h1 := (hf.iff (f k) k (by omega) hk).mp (hf.idem k hk)
    have h2 := (hg.iff (f k) k (by omega) hk).mpr h1
    have h3 := hg.le (f k) (by omega)
    omega
  intro k hk
  have := half hf hg k hk
  have := half hg hf k hk
  omega
/-- the marks while rings are gone through -/
structure BStep (p : List Nat) (ts : List Str) (rs : List (List Nat)) (f : Nat → Nat) : Prop where
  sound : ∀ j k, j < ts.length → k < ts.length → f j = f k → Linked p ts j k
  all : ∀ r ∈ rs, ∀ j ∈ r, ∀ k ∈ r, f j = f k
  le : ∀ k, k < ts.length → f k ≤ k
  idem : ∀ k, k < ts.length → f (f k) = f k
theorem BStep.start : BStep p ts [] id := ⟨fun j k _ _ h => .inl h, fun r hr => (by cases hr), fun k _ => Nat.le_refl k, fun k _ => rfl⟩
def joinF (f : Nat → Nat) (r : List Nat) (m : Nat) (k : Nat) : Nat := if f k ∈ r.map f then m else f k
theorem BStep.step (u : p.Pairwise (· ≠ ·)) (he : Ends p ts) {rs : List (List Nat)} {f : Nat → Nat} (h : BStep p ts rs f) {r : List Nat} (hr : Ring p ts r) {m : Nat} (hm : m ∈ r.map f) (least : ∀ x ∈ r.map f, m ≤ x) : BStep p ts (rs ++ [r]) (joinF f r m) := by
  obtain ⟨a0, ha0, ea0⟩ := List.mem_map.mp hm
  have inR : ∀ {k}, f k ∈ r.map f → ∃ a, a ∈ r ∧ f a = f k := fun {k} hk => List.mem_map.mp hk
  refine ⟨fun j k hj hk e => ?_, fun s hs j hj k hk => ?_, fun k hk => ?_, fun k hk => ?_⟩
  · unfold joinF at e
    by_cases q1 : f j ∈ r.map f <;> by_cases q2 : f k ∈ r.map f
    · obtain ⟨a, a1, a2⟩ := inR q1
      obtain ⟨b, b1, b2⟩ := inR q2
      have l1 := h.sound j a hj (hr.few a a1) a2.symm
      have l2 := h.sound b k (hr.few b b1) hk b2
      exact (l1.trans u he (.inr ⟨r, hr, a1, b1⟩)).trans u he l2
    · rw [if_pos q1, if_neg q2] at e
      exact absurd (e ▸ hm) q2
    · rw [if_neg q1, if_pos q2] at e
      exact absurd (e.symm ▸ hm) q1
    · rw [if_neg q1, if_neg q2] at e
      exact h.sound j k hj hk e
  · unfold joinF
    rcases List.mem_append.mp hs with q | q
    · rw [h.all s q j hj k hk]
    · rw [List.mem_singleton.mp q] at hj hk
      rw [if_pos (List.mem_map.mpr ⟨j, hj, rfl⟩), if_pos (List.mem_map.mpr ⟨k, hk, rfl⟩)]
  · unfold joinF
    have := h.le k hk
    split
    · rename_i q
      have := least _ q
      omega
    · exact this
  · unfold joinF
    by_cases q : f k ∈ r.map f
    · rw [if_pos q]
      have e : f m = m := by rw [← ea0, h.idem a0 (hr.few a0 ha0)]
      rw [e, if_pos hm]
    · rw [if_neg q, h.idem k hk, if_neg q]
theorem BStep.done (u : p.Pairwise (· ≠ ·)) (he : Ends p ts) {rs : List (List Nat)} {f : Nat → Nat} (h : BStep p ts rs f) (all : ∀ r, Ring p ts r → r ∈ rs) : BMarks p ts f :=
  ⟨fun j k hj hk => ⟨h.sound j k hj hk, fun l => by
    rcases l with e | ⟨r, r1, r2, r3⟩
    · rw [e]
    · exact h.all r (all r r1) j r2 k r3⟩, h.le, h.idem⟩
def blocksF (n : Nat) (f : Nat → Nat) : List (List Nat) := ((List.range n).map fun s => (List.range n).filter fun j => decide (f j = s)).filter fun l => decide (l ≠ [])
theorem blocks_one {f g : Nat → Nat} (hf : BMarks p ts f) (hg : BMarks p ts g) : blocksF ts.length f = blocksF ts.length g := by
  have e := hf.one hg
  unfold blocksF
  congr 1
  refine List.map_congr_left fun s _ => List.filter_congr fun j hj => ?_
  rw [e j (List.mem_range.mp hj)]
/-! ### the product over blocks -/
/-! ### fractions in lowest terms -/
end
end K10
set_option Elab.async false
set_option linter.all false
set_option maxRecDepth 100000
namespace K10
open PySem PySem.Spec PyProof.Rows L2 DL
section
variable {p : List Nat}
theorem nf_more (u : p.Pairwise (· ≠ ·)) {ys : List (Nat × Nat)} {y : Nat × Nat} (hy : InP p (ys ++ [y])) : nonFix (marksL p (ys ++ [y])) p = nonFix (marksL p ys) p + if decide (markOf p (marksL p ys) y.1 = markOf p (marksL p ys) y.2) = true then 0 else 1 := by
  rw [marksL_snoc]
  by_cases c : markOf p (marksL p ys) y.1 = markOf p (marksL p ys) y.2
  · rw [if_pos (decide_eq_true c), step_same c]
    rfl
  · rw [if_neg (by rw [decide_eq_false c]; exact Bool.false_ne_true)]
    refine Nat.le_antisymm ?_ ?_
    · exact nonFix_step u (marksL p ys) y
    · obtain ⟨m1, m2⟩ := hy.last
      exact step_up u (roots_marks u hy.left) m1 m2 c
end
/-- the ranks by whether ties join what is joined -/
theorem rk_more_cn {p : List Nat} {rest : List Str} {e : Str} (u : p.Pairwise (· ≠ ·)) (he : Ends p (rest ++ [e])) : (Conn (rest.map ends) (ends e).1 (ends e).2 → rkS p (rest ++ [e]) = rkS p rest) ∧ (¬ Conn (rest.map ends) (ends e).1 (ends e).2 → rkS p (rest ++ [e]) = rkS p rest + 1) := by
  have hin : InP p ((rest ++ [e]).map ends) := fun y hy => by
    obtain ⟨z, hz, rfl⟩ := List.mem_map.mp hy
    exact he z hz
  have hin2 : InP p (rest.map ends ++ [ends e]) := by rw [List.map_append] at hin; exact hin
  have h := nf_more u hin2
  have e1 : rkS p (rest ++ [e]) = nonFix (marksL p (rest.map ends ++ [ends e])) p := by
    unfold rkS
    rw [List.map_append]
    rfl
  rw [e1, h]
  have c : markOf p (marksL p (rest.map ends)) (ends e).1 = markOf p (marksL p (rest.map ends)) (ends e).2 ↔ Conn (rest.map ends) (ends e).1 (ends e).2 := by
    exact ⟨marks_conn _ hin2.left _ _ hin2.last.1 hin2.last.2, conn_marks hin2.left⟩
  constructor
  · intro z
    rw [if_pos (decide_eq_true (c.mpr z))]
    rfl
  · intro z
    rw [if_neg (by rw [decide_eq_true_iff]; exact fun q => z (c.mp q))]
    rfl
/-- two lists of ties, the one the other by other names, have one rank -/
theorem rk_names {p q : List Nat} {φ ψ : Nat → Nat} (inv : ∀ c, ψ (φ c) = c) (up : p.Pairwise (· ≠ ·)) (uq : q.Pairwise (· ≠ ·)) (f : Str → Str) (hf : ∀ y, ends (f y) = (φ (ends y).1, φ (ends y).2) ∨ ends (f y) = (φ (ends y).2, φ (ends y).1)) :
    ∀ (n : Nat) (s : List Str), s.length = n → Ends p s → Ends q (s.map f) → rkS p s = rkS q (s.map f) := by
  have cn2 : ∀ (s : List Str) (a b : Nat), Conn ((s.map f).map ends) (φ a) (φ b) ↔ Conn (s.map ends) a b := fun s a b => by
    have back : ∀ {x y : Nat}, Conn ((s.map f).map ends) x y → Conn (s.map ends) (ψ x) (ψ y) := fun {x y} h => by
      induction h with
      | refl a => exact .refl _
      | tie hd =>
        obtain ⟨z, hz, rfl⟩ := List.mem_map.mp hd
        obtain ⟨y, hy, rfl⟩ := List.mem_map.mp hz
        have m : Conn (s.map ends) (ends y).1 (ends y).2 := .tie (List.mem_map.mpr ⟨y, hy, rfl⟩)
        rcases hf y with z | z <;> rw [z] <;> show Conn (s.map ends) (ψ (φ _)) (ψ (φ _)) <;> rw [inv, inv]
        · exact m
        · exact m.symm
      | symm _ ih => exact ih.symm
      | trans _ _ i1 i2 => exact i1.trans i2
    have forth : ∀ {x y : Nat}, Conn (s.map ends) x y → Conn ((s.map f).map ends) (φ x) (φ y) := fun {x y} h => by
      induction h with
      | refl a => exact .refl _
      | tie hd =>
        obtain ⟨y, hy, rfl⟩ := List.mem_map.mp hd
        have m : Conn ((s.map f).map ends) (ends (f y)).1 (ends (f y)).2 := .tie (List.mem_map.mpr ⟨f y, List.mem_map.mpr ⟨y, hy, rfl⟩, rfl⟩)
        rcases hf y with z | z <;> rw [z] at m
        · exact m
        · exact m.symm
      | symm _ ih => exact ih.symm
      | trans _ _ i1 i2 => exact i1.trans i2
    exact ⟨fun h => by have := back h; rwa [inv, inv] at this, forth⟩
  intro n
  induction n with
  | zero =>
    intro s hs _ _
    rw [List.length_eq_zero_iff.mp hs]
    show nonFix p p = nonFix q q
    rw [nonFix_self, nonFix_self]
  | succ n ih =>
    intro s hs hp hq
    rcases List.eq_nil_or_concat s with z | ⟨rest, e, z⟩
    · rw [z] at hs; cases hs
    rw [List.concat_eq_append] at z
    subst z
    rw [List.map_append] at hq ⊢
    have hq : Ends q (rest.map f ++ [f e]) := hq
    have i := ih rest (by rw [List.length_append, List.length_singleton] at hs; omega) (fun y hy => hp y (List.mem_append_left _ hy)) fun y hy => hq y (List.mem_append_left _ hy)
    obtain ⟨p1, p2⟩ := rk_more_cn up hp
    obtain ⟨q1, q2⟩ := rk_more_cn uq hq
    have c : Conn ((rest.map f).map ends) (ends (f e)).1 (ends (f e)).2 ↔ Conn (rest.map ends) (ends e).1 (ends e).2 := by
      rcases hf e with z | z <;> rw [z]
      · exact cn2 rest _ _
      · exact (cn2 rest _ _).trans ⟨Conn.symm, Conn.symm⟩
    show rkS p (rest ++ [e]) = rkS q (rest.map f ++ [f e])
    by_cases h : Conn (rest.map ends) (ends e).1 (ends e).2
    · rw [p1 h, q1 (c.mpr h), i]
    · rw [p2 h, q2 fun z => h (c.mp z), i]
/-! ### other letters -/
/-- the letter that stands for a place -/
def forL (p q : List Nat) (c : Nat) : Nat := q.getD (p.idxOf c) 0
def nameT (p q : List Nat) (y : Str) : Str := yTie (min (forL p q (ends y).1) (forL p q (ends y).2)) (max (forL p q (ends y).1) (forL p q (ends y).2))
def farL (p q : List Nat) (c : Nat) : Nat := if c ∈ p then q.getD (p.idxOf c) 0 else c + 1000
def nearL (p q : List Nat) (d : Nat) : Nat := if d < 1000 then p.getD (q.idxOf d) 0 else d - 1000
theorem idx_at {q : List Nat} (uq : q.Pairwise (· ≠ ·)) {i : Nat} (h : i < q.length) : q.idxOf q[i] = i := by
  have h1 := List.idxOf_lt_length_of_mem (List.getElem_mem h)
  have h2 := List.getElem_idxOf h1
  rcases Nat.lt_trichotomy (q.idxOf q[i]) i with z | z | z
  · exact absurd h2 (List.pairwise_iff_getElem.mp uq _ _ h1 h z)
  · exact z
  · exact absurd h2.symm (List.pairwise_iff_getElem.mp uq _ _ h h1 z)
theorem far_near {p q : List Nat} (uq : q.Pairwise (· ≠ ·)) (l : q.length = p.length) (sm_ : ∀ c ∈ q, c < 1000) (c : Nat) : nearL p q (farL p q c) = c := by
  unfold farL
  by_cases h : c ∈ p
  · rw [if_pos h]
    have hi := List.idxOf_lt_length_of_mem h
    have hq : p.idxOf c < q.length := by omega
    rw [List.getD_eq_getElem?_getD, List.getElem?_eq_getElem hq]
    show nearL p q q[p.idxOf c] = c
    unfold nearL
    rw [if_pos (sm_ _ (List.getElem_mem _)), idx_at uq hq, List.getD_eq_getElem?_getD, List.getElem?_eq_getElem hi]
    exact List.getElem_idxOf hi
  · rw [if_neg h]
    unfold nearL
    rw [if_neg (by omega)]
    omega
theorem name_in {p q : List Nat} (l : q.length = p.length) {c : Nat} (hc : c ∈ p) : forL p q c ∈ q := by
  unfold forL
  have := List.idxOf_lt_length_of_mem hc
  rw [List.getD_eq_getElem?_getD, List.getElem?_eq_getElem (by omega)]
  exact List.getElem_mem _
theorem mm_two {m : List Nat} {a b : Nat} (ha : a ∈ m) (hb : b ∈ m) : min a b ∈ m ∧ max a b ∈ m ∧ min a b ≤ max a b := by
  rcases Nat.le_total a b with q | q
  · rw [Nat.min_eq_left q, Nat.max_eq_right q]; exact ⟨ha, hb, q⟩
  · rw [Nat.min_eq_right q, Nat.max_eq_left q]; exact ⟨hb, ha, q⟩
theorem name_okT {p q m : List Nat} {ts : List Str} (l : q.length = p.length) (pm : m.Perm q) (ot : OkT p ts) : OkT m (ts.map (nameT p q)) := ⟨fun y hy => by
  obtain ⟨w, hw, rfl⟩ := List.mem_map.mp hy
  obtain ⟨a, b, rfl, ha, hb, _⟩ := ot.ties w hw
  obtain ⟨x1, x2, x3⟩ := mm_two (pm.symm.subset (name_in l ha)) (pm.symm.subset (name_in l hb))
  exact ⟨_, _, rfl, x1, x2, x3⟩⟩
theorem okT_ends {p : List Nat} {ts : List Str} (ot : OkT p ts) : Ends p ts := fun y hy => by
  obtain ⟨a, b, rfl, ha, hb, _⟩ := ot.ties y hy
  exact ⟨ha, hb⟩
section
variable {p q m : List Nat} {ts : List Str} (up : p.Pairwise (· ≠ ·)) (uq : q.Pairwise (· ≠ ·)) (l : q.length = p.length) (pm : m.Perm q) (sm_ : ∀ c ∈ q, c < 1000) (ot : OkT p ts)
include up uq l pm sm_ ot
/-- ranks don't rest on the letters -/
theorem rank_named {v : List Nat} (hv : In ts v) : rankOf m (ts.map (nameT p q)) v = rankOf p ts v := by
  have um : m.Pairwise (· ≠ ·) := pm.nodup_iff.mpr uq
  obtain ⟨f, hf⟩ : ∃ f : Str → Str, f = fun y => yTie (min (farL p q (ends y).1) (farL p q (ends y).2)) (max (farL p q (ends y).1) (farL p q (ends y).2)) := ⟨_, rfl⟩
  have he := okT_ends ot
  have e : ∀ y ∈ ts, nameT p q y = f y := fun y hy => by
    obtain ⟨h1, h2⟩ := he y hy
    rw [hf]
    show nameT p q y = yTie _ _
    unfold nameT farL forL
    rw [if_pos h1, if_pos h2]
  have hfe : ∀ y, ends (f y) = (farL p q (ends y).1, farL p q (ends y).2) ∨ ends (f y) = (farL p q (ends y).2, farL p q (ends y).1) := fun y => by
    rw [hf]
    show (min _ _, max _ _) = _ ∨ (min _ _, max _ _) = _
    rcases Nat.le_total (farL p q (ends y).1) (farL p q (ends y).2) with z | z
    · rw [Nat.min_eq_left z, Nat.max_eq_right z]
      exact .inl rfl
    · rw [Nat.min_eq_right z, Nat.max_eq_left z]
      exact .inr rfl
  have hin : ∀ k ∈ v, ts.getD k Str.empty ∈ ts := fun k hk => by
    rw [List.getD_eq_getElem?_getD, List.getElem?_eq_getElem (hv k hk)]
    exact List.getElem_mem _
  have es : (v.map fun k => (ts.map (nameT p q)).getD k Str.empty) = (v.map fun k => ts.getD k Str.empty).map f := by
    rw [List.map_map]
    refine List.map_congr_left fun k hk => ?_
    show _ = f (ts.getD k Str.empty)
    rw [← e _ (hin k hk), List.getD_eq_getElem?_getD, List.getElem?_map, List.getD_eq_getElem?_getD, List.getElem?_eq_getElem (hv k hk)]
    rfl
  rw [rank_rk, rank_rk, es]
  have hm := okT_ends (name_okT l pm ot)
  refine (rk_names (far_near uq l sm_) up um f hfe _ _ rfl (fun y hy => ?_) fun y hy => ?_).symm
  · obtain ⟨k, hk, rfl⟩ := List.mem_map.mp hy
    exact he _ (hin k hk)
  · obtain ⟨w, hw, rfl⟩ := List.mem_map.mp hy
    obtain ⟨k, hk, rfl⟩ := List.mem_map.mp hw
    rw [← e _ (hin k hk)]
    exact hm _ (List.mem_map.mpr ⟨_, hin k hk, rfl⟩)
theorem ring_named {v : List Nat} (hv : In ts v) : ringB m (ts.map (nameT p q)) v = ringB p ts v := by
  unfold ringB
  rw [rank_named up uq l pm sm_ ot hv]
  congr 1
  rw [Bool.eq_iff_iff, List.all_eq_true, List.all_eq_true]
  refine forall_congr' fun k => forall_congr' fun hk => ?_
  rw [rank_named up uq l pm sm_ ot (fun j hj => hv j (wout_mem.mp hj).1)]
theorem rings_named : (lotsL (ts.map (nameT p q)).length).filter (ringB m (ts.map (nameT p q))) = (lotsL ts.length).filter (ringB p ts) := by
  rw [List.length_map]
  exact List.filter_congr fun v hv => ring_named up uq l pm sm_ ot (lots_in _ v hv).1
theorem ringP_named {v : List Nat} : Ring m (ts.map (nameT p q)) v ↔ Ring p ts v := by
  constructor
  · rintro ⟨h1, h2⟩
    rw [List.length_map] at h1
    exact ⟨h1, by rw [← ring_named up uq l pm sm_ ot (lots_in _ v h1).1]; exact h2⟩
  · rintro ⟨h1, h2⟩
    exact ⟨by rw [List.length_map]; exact h1, by rw [ring_named up uq l pm sm_ ot (lots_in _ v h1).1]; exact h2⟩
theorem linked_named {a b : Nat} : Linked m (ts.map (nameT p q)) a b ↔ Linked p ts a b := by
  unfold Linked
  refine or_congr Iff.rfl (exists_congr fun r => and_congr (ringP_named up uq l pm sm_ ot) Iff.rfl)
theorem marks_named {f : Nat → Nat} (h : BMarks m (ts.map (nameT p q)) f) : BMarks p ts f := by
  obtain ⟨h1, h2, h3⟩ := h
  rw [List.length_map] at h1 h2 h3
  exact ⟨fun j k hj hk => (h1 j k hj hk).trans (linked_named up uq l pm sm_ ot), h2, h3⟩
theorem full_named : rankOf m (ts.map (nameT p q)) (List.range (ts.map (nameT p q)).length) = rankOf p ts (List.range ts.length) := by
  rw [List.length_map]
  exact rank_named up uq l pm sm_ ot fun k hk => List.mem_range.mp hk
theorem trees_named {out : List (List Nat)} : IsTrees m (ts.map (nameT p q)) out ↔ IsTrees p ts out := by
  unfold IsTrees
  have um : m.Pairwise (· ≠ ·) := pm.nodup_iff.mpr uq
  rw [full_named up uq l pm sm_ ot, List.length_map, woods_all um, woods_all up]
  have e : (lotsL ts.length).filter (fun u => decide ((u.length : Int) - (rankOf m (ts.map (nameT p q)) u : Nat) = 0)) = (lotsL ts.length).filter (fun u => decide ((u.length : Int) - (rankOf p ts u : Nat) = 0)) :=
    List.filter_congr fun u hu => by rw [rank_named up uq l pm sm_ ot (lots_in _ u hu).1]
  rw [e]
theorem cnt_named (a b : Nat) : cnt (rankOf m (ts.map (nameT p q))) ts.length a b = cnt (rankOf p ts) ts.length a b := by
  unfold cnt full
  congr 1
  refine List.filter_congr fun v hv => ?_
  rw [rank_named up uq l pm sm_ ot (lots_in _ v hv).1, rank_named up uq l pm sm_ ot fun k hk => List.mem_range.mp hk]
end
end K10
set_option Elab.async false
set_option linter.all false
set_option maxRecDepth 100000
namespace K10
open PySem PySem.Spec PyProof.Rows L2 DL
/-! ### letters after letters -/
/-- the tie of two places -/
def tie2 (a b : Nat) : Str := yTie (min a b) (max a b)
def tieF (f : Nat → Nat) (y : Str) : Str := tie2 (f (ends y).1) (f (ends y).2)
theorem nameT_F (p q : List Nat) : nameT p q = tieF (forL p q) := rfl
theorem tie2_comm (a b : Nat) : tie2 a b = tie2 b a := by unfold tie2; rw [Nat.min_comm, Nat.max_comm]
theorem tieF_two (f : Nat → Nat) (a b : Nat) : tieF f (tie2 a b) = tie2 (f a) (f b) := by
  unfold tieF
  show tie2 (f (min a b)) (f (max a b)) = _
  rcases Nat.le_total a b with z | z
  · rw [Nat.min_eq_left z, Nat.max_eq_right z]
  · rw [Nat.min_eq_right z, Nat.max_eq_left z, tie2_comm]
theorem tieF_comp (f g : Nat → Nat) (y : Str) : tieF g (tieF f y) = tieF (fun c => g (f c)) y := tieF_two g _ _
theorem tieF_same {f g : Nat → Nat} {y : Str} (h1 : f (ends y).1 = g (ends y).1) (h2 : f (ends y).2 = g (ends y).2) : tieF f y = tieF g y := by unfold tieF; rw [h1, h2]
theorem tie_two {a b : Nat} (h : a ≤ b) : yTie a b = tie2 a b := by unfold tie2; rw [Nat.min_eq_left h, Nat.max_eq_right h]
theorem tie2_inj {a b c d : Nat} (h : tie2 a b = tie2 c d) : (a = c ∧ b = d) ∨ (a = d ∧ b = c) := by
  have e : ends (tie2 a b) = ends (tie2 c d) := by rw [h]
  have e : (min a b, max a b) = (min c d, max c d) := e
  have e1 := congrArg Prod.fst e
  have e2 := congrArg Prod.snd e
  simp only at e1 e2
  omega
theorem for_map {p q : List Nat} (g : Nat → Nat) (l : q.length = p.length) {c : Nat} (h : c ∈ p) : forL p (q.map g) c = g (forL p q c) := by
  unfold forL
  have := List.idxOf_lt_length_of_mem h
  rw [List.getD_eq_getElem?_getD, List.getD_eq_getElem?_getD, List.getElem?_map, List.getElem?_eq_getElem (by omega)]
  rfl
theorem for_self {p : List Nat} {c : Nat} (h : c ∈ p) : forL p p c = c := by
  unfold forL
  have := List.idxOf_lt_length_of_mem h
  rw [List.getD_eq_getElem?_getD, List.getElem?_eq_getElem this]
  exact List.getElem_idxOf this
theorem for_at {p q : List Nat} (up : p.Pairwise (· ≠ ·)) (l : q.length = p.length) {i : Nat} (h : i < p.length) : forL p q p[i] = q[i] := by
  unfold forL
  rw [idx_at up h, List.getD_eq_getElem?_getD, List.getElem?_eq_getElem (by omega)]
  rfl
theorem map_for {p q : List Nat} (up : p.Pairwise (· ≠ ·)) (l : q.length = p.length) : p.map (forL p q) = q := by
  refine List.ext_getElem (by rw [List.length_map, l]) fun i h1 h2 => ?_
  rw [List.getElem_map]
  exact for_at up l _
theorem for_back {p q : List Nat} (uq : q.Pairwise (· ≠ ·)) (l : q.length = p.length) {c : Nat} (h : c ∈ p) : forL q p (forL p q c) = c := by
  have hi := List.idxOf_lt_length_of_mem h
  have e : forL p q c = q[p.idxOf c] := by
    unfold forL
    rw [List.getD_eq_getElem?_getD, List.getElem?_eq_getElem (by omega)]
    rfl
  rw [e, for_at uq l.symm (by omega)]
  exact List.getElem_idxOf hi
theorem for_inj {p q : List Nat} (uq : q.Pairwise (· ≠ ·)) (l : q.length = p.length) {c d : Nat} (h : c ∈ p) (k : d ∈ p) (e : forL p q c = forL p q d) : c = d := by
  rw [← for_back uq l h, e, for_back uq l k]
/-- named, and named again -/
theorem name_then {p q m r : List Nat} (l : q.length = p.length) {y : Str} (he : (ends y).1 ∈ p ∧ (ends y).2 ∈ p) : nameT p (q.map (forL m r)) y = nameT m r (nameT p q y) := by
  rw [nameT_F, nameT_F, nameT_F, tieF_comp]
  exact tieF_same (for_map _ l he.1) (for_map _ l he.2)
theorem names_then {p q m r : List Nat} {ts : List Str} (l : q.length = p.length) (he : Ends p ts) : (ts.map (nameT p q)).map (nameT m r) = ts.map (nameT p (q.map (forL m r))) := by
  rw [List.map_map]
  exact List.map_congr_left fun y hy => (name_then l (he y hy)).symm
theorem names_self {p : List Nat} {ts : List Str} (ot : OkT p ts) : ts.map (nameT p p) = ts := by
  refine (List.map_congr_left fun y hy => ?_).trans (List.map_id _)
  obtain ⟨a, b, rfl, ha, hb, ab⟩ := ot.ties y hy
  show tie2 (forL p p a) (forL p p b) = yTie a b
  rw [for_self ha, for_self hb, tie_two ab]
/-- named, and named back -/
theorem names_back {p q m : List Nat} {ts : List Str} (uq : q.Pairwise (· ≠ ·)) (l : q.length = p.length) (pm : m.Perm q) (ot : OkT p ts) : (ts.map (nameT p q)).map (nameT m (m.map (forL q p))) = ts := by
  rw [List.map_map]
  refine (List.map_congr_left fun y hy => ?_).trans (List.map_id _)
  obtain ⟨a, b, rfl, ha, hb, ab⟩ := ot.ties y hy
  show nameT m _ (tie2 (forL p q a) (forL p q b)) = yTie a b
  rw [nameT_F, tieF_two, for_map _ rfl (pm.symm.subset (name_in l ha)), for_map _ rfl (pm.symm.subset (name_in l hb)), for_self (pm.symm.subset (name_in l ha)), for_self (pm.symm.subset (name_in l hb)), for_back uq l ha, for_back uq l hb, tie_two ab]
/-! ### all orders of some letters -/
def ordStep (s : List Nat) (F : List (List Nat)) : List (List Nat) := F.flatMap fun w => (s.filter fun c => decide (c ∉ w)).map fun c => w ++ [c]
def ordN (s : List Nat) : Nat → List (List Nat)
  | 0 => [[]]
  | k + 1 => ordStep s (ordN s k)
theorem snoc_nodup {w : List Nat} {c : Nat} : (w ++ [c]).Nodup ↔ w.Nodup ∧ c ∉ w := by
  rw [List.nodup_append]
  constructor
  · rintro ⟨h1, _, h3⟩
    exact ⟨h1, fun z => h3 c z c (List.mem_singleton.mpr rfl) rfl⟩
  · rintro ⟨h1, h2⟩
    exact ⟨h1, List.nodup_cons.mpr ⟨List.not_mem_nil, List.nodup_nil⟩, fun a ha b hb e => h2 (by rw [← List.mem_singleton.mp hb, ← e]; exact ha)⟩
theorem snoc_of {w : List Nat} {k : Nat} (h : w.length = k + 1) : ∃ v c, w = v ++ [c] ∧ v.length = k := by
  rcases List.eq_nil_or_concat w with z | ⟨v, c, z⟩
  · rw [z] at h; cases h
  · rw [List.concat_eq_append] at z
    refine ⟨v, c, z, ?_⟩
    rw [z, List.length_append, List.length_singleton] at h
    omega
theorem ord_mem {s : List Nat} : ∀ {k : Nat} {w : List Nat}, w ∈ ordN s k ↔ w.length = k ∧ w.Nodup ∧ ∀ c ∈ w, c ∈ s
  | 0, w => by
    constructor
    · intro h
      rw [List.mem_singleton.mp h]
      exact ⟨rfl, List.nodup_nil, fun c hc => absurd hc List.not_mem_nil⟩
    · rintro ⟨h, _⟩
      rw [List.length_eq_zero_iff.mp h]
      exact List.mem_singleton.mpr rfl
  | k + 1, w => by
    show w ∈ ordStep s (ordN s k) ↔ _
    unfold ordStep
    rw [List.mem_flatMap]
    constructor
    · rintro ⟨v, hv, hw⟩
      obtain ⟨c, hc, rfl⟩ := List.mem_map.mp hw
      obtain ⟨c1, c2⟩ := List.mem_filter.mp hc
      obtain ⟨v1, v2, v3⟩ := ord_mem.mp hv
      refine ⟨by rw [List.length_append, v1]; rfl, snoc_nodup.mpr ⟨v2, of_decide_eq_true c2⟩, fun x hx => ?_⟩
      rcases List.mem_append.mp hx with z | z
      · exact v3 x z
      · rw [List.mem_singleton.mp z]; exact c1
    · rintro ⟨h1, h2, h3⟩
      obtain ⟨v, c, rfl, hv⟩ := snoc_of h1
      obtain ⟨n1, n2⟩ := snoc_nodup.mp h2
      exact ⟨v, ord_mem.mpr ⟨hv, n1, fun x hx => h3 x (List.mem_append_left _ hx)⟩, List.mem_map.mpr ⟨c, List.mem_filter.mpr ⟨h3 c (List.mem_append_right _ (List.mem_singleton.mpr rfl)), decide_eq_true n2⟩, rfl⟩⟩
theorem snoc_inj {v w : List Nat} {c d : Nat} (h : v ++ [c] = w ++ [d]) : v = w ∧ c = d := by
  have := List.append_inj' h rfl
  exact ⟨this.1, by simpa using this.2⟩
theorem grow_nodup {F : List (List Nat)} (h : F.Nodup) (g : List Nat → List Nat) (hg : ∀ w, (g w).Nodup) : (F.flatMap fun w => (g w).map fun c => w ++ [c]).Nodup := by
  unfold List.Nodup
  rw [List.flatMap_def, List.pairwise_flatten]
  refine ⟨fun l hl => ?_, ?_⟩
  · obtain ⟨w, _, rfl⟩ := List.mem_map.mp hl
    rw [List.pairwise_map]
    exact (hg w).imp fun hne e => hne (snoc_inj e).2
  · rw [List.pairwise_map]
    refine List.Pairwise.imp (fun {v w} hne => ?_) h
    intro x hx y hy e
    obtain ⟨c, _, rfl⟩ := List.mem_map.mp hx
    obtain ⟨d, _, rfl⟩ := List.mem_map.mp hy
    exact hne (snoc_inj e).1
theorem ord_nodup {s : List Nat} (us : s.Nodup) : ∀ k, (ordN s k).Nodup
  | 0 => List.nodup_cons.mpr ⟨List.not_mem_nil, List.nodup_nil⟩
  | k + 1 => grow_nodup (ord_nodup us k) _ fun w => us.filter _
theorem grow_few {F : List (List Nat)} {a n : Nat} (h : F.length ≤ a) (g : List Nat → List Nat) (hg : ∀ w, (g w).length ≤ n) : (F.flatMap fun w => (g w).map fun c => w ++ [c]).length ≤ a * n := by
  have : ∀ F : List (List Nat), (F.flatMap fun w => (g w).map fun c => w ++ [c]).length ≤ F.length * n := fun F => by
    induction F with
    | nil => rw [List.flatMap_nil]; exact Nat.zero_le _
    | cons w F ih =>
      rw [List.flatMap_cons, List.length_append, List.length_map, List.length_cons, Nat.add_mul, Nat.one_mul]
      have := hg w
      omega
  exact Nat.le_trans (this F) (Nat.mul_le_mul_right _ h)
theorem ord_few {s : List Nat} (l : s.length ≤ 4) : ∀ k, (ordN s k).length ≤ 4 ^ k
  | 0 => Nat.le_refl _
  | k + 1 => grow_few (ord_few l k) _ fun w => Nat.le_trans (List.length_filter_le _ _) l
theorem perm_of_all {s w : List Nat} (nw : w.Nodup) (h : ∀ c ∈ w, c ∈ s) (l : w.length = s.length) (us : s.Nodup) : w.Perm s := by
  refine (List.perm_ext_iff_of_nodup nw us).mpr fun c => ⟨h c, fun hc => ?_⟩
  refine Classical.byContradiction fun z => ?_
  have n2 : (w ++ [c]).Nodup := snoc_nodup.mpr ⟨nw, z⟩
  have := nodup_le (l := w ++ [c]) (m := s) n2 fun x hx => (List.mem_append.mp hx).elim (h x) fun q => by rw [List.mem_singleton.mp q]; exact hc
  rw [List.length_append, List.length_singleton] at this
  omega
theorem ord_perm {s w : List Nat} (us : s.Nodup) : w ∈ ordN s s.length ↔ w.Perm s :=
  ⟨fun h => by obtain ⟨h1, h2, h3⟩ := ord_mem.mp h; exact perm_of_all h2 h3 h1 us, fun h => ord_mem.mpr ⟨h.length_eq, h.nodup_iff.mpr us, fun c hc => h.subset hc⟩⟩
/-! ### the orders that keep the ties, and the others -/
def keepsB (p : List Nat) (ts : List Str) (q : List Nat) : Bool := decide ((ts.map (nameT p q)).Perm ts)
def ownN (p : List Nat) (ts : List Str) : Nat := ((ordN p p.length).filter (keepsB p ts)).length
theorem dvd_classes {α : Type} (R : α → α → Bool) (rf : ∀ a, R a a = true) (sy : ∀ a b, R a b = true → R b a = true) (tr : ∀ a b c, R a b = true → R b c = true → R a c = true) (n : Nat) :
    ∀ (k : Nat) (L : List α), L.length = k → (∀ a ∈ L, (L.filter (R a)).length = n) → n ∣ L.length := by
  intro k
  induction k using Nat.strongRecOn with
  | ind k ih =>
    intro L hk h
    cases L with
    | nil => exact Nat.dvd_zero n
    | cons a T =>
      have ha := h a List.mem_cons_self
      have sp : ((a :: T).filter (R a)).length + ((a :: T).filter fun x => !R a x).length = (a :: T).length := by
        have := (List.filter_append_perm (R a) (a :: T)).length_eq
        rw [List.length_append] at this
        exact this
      have pos : 1 ≤ ((a :: T).filter (R a)).length := by
        rw [List.filter_cons_of_pos (rf a), List.length_cons]
        omega
      have := ih ((a :: T).filter fun x => !R a x).length (by omega) ((a :: T).filter fun x => !R a x) rfl fun b hb => by
        obtain ⟨b1, b2⟩ := List.mem_filter.mp hb
        rw [← h b b1, List.filter_filter]
        congr 1
        refine List.filter_congr fun x _ => ?_
        cases c : R b x with
        | false => rfl
        | true =>
          cases d : R a x with
          | false => rfl
          | true =>
            rw [tr a x b d (sy b x c)] at b2
            cases b2
      rw [← sp, ha]
      exact Nat.dvd_add (Nat.dvd_refl n) this
theorem len_both {A B : List (List Nat)} (nA : A.Nodup) (nB : B.Nodup) (f g : List Nat → List Nat) (hf : ∀ a ∈ A, f a ∈ B) (hg : ∀ b ∈ B, g b ∈ A) (gf : ∀ a ∈ A, g (f a) = a) (fg : ∀ b ∈ B, f (g b) = b) : A.length = B.length := by
  have half : ∀ {A B : List (List Nat)} {f g : List Nat → List Nat}, A.Nodup → (∀ a ∈ A, f a ∈ B) → (∀ a ∈ A, g (f a) = a) → A.length ≤ B.length := fun {A B f g} nA hf gf => by
    have n2 : (A.map f).Nodup := by
      unfold List.Nodup
      rw [List.pairwise_map]
      exact nA.imp_of_mem fun {a b} ha hb hne e => hne (by rw [← gf a ha, e, gf b hb])
    have := nodup_le (l := A.map f) (m := B) n2 fun x hx => by
      obtain ⟨a, ha, rfl⟩ := List.mem_map.mp hx
      exact hf a ha
    rwa [List.length_map] at this
  exact Nat.le_antisymm (half nA hf gf) (half nB hg fg)
theorem perm_map_for {p q s : List Nat} (up : p.Pairwise (· ≠ ·)) (l : q.length = p.length) (hs : s.Perm p) : (s.map (forL p q)).Perm q := by
  have := hs.map (forL p q)
  rwa [map_for up l] at this
theorem map_back {p q s : List Nat} (uq : q.Pairwise (· ≠ ·)) (l : q.length = p.length) (hs : ∀ c ∈ s, c ∈ p) : (s.map (forL p q)).map (forL q p) = s := by
  rw [List.map_map]
  exact (List.map_congr_left fun c hc => for_back uq l (hs c hc)).trans (List.map_id _)
theorem own_dvd {p : List Nat} {ts : List Str} (up : p.Nodup) (ot : OkT p ts) : ownN p ts ∣ (ordN p p.length).length := by
  refine dvd_classes (fun a b => decide ((ts.map (nameT p a)).Perm (ts.map (nameT p b)))) (fun a => decide_eq_true (.refl _)) (fun a b h => decide_eq_true (of_decide_eq_true h).symm) (fun a b c h1 h2 => decide_eq_true ((of_decide_eq_true h1).trans (of_decide_eq_true h2))) _ _ _ rfl fun q hq => ?_
  have pq := (ord_perm up).mp hq
  have uq : q.Nodup := pq.nodup_iff.mpr up
  have l := pq.length_eq
  have he := okT_ends ot
  have he2 : ∀ {r : List Nat}, r.Perm p → Ends p (ts.map (nameT p r)) := fun {r} hr => okT_ends (name_okT hr.length_eq hr.symm ot)
  refine (len_both (f := fun s => s.map (forL p q)) (g := fun r => r.map (forL q p)) ((ord_nodup up _).filter _) ((ord_nodup up _).filter _) (fun s hs => ?_) (fun r hr => ?_) (fun s hs => ?_) fun r hr => ?_).symm
  · obtain ⟨s1, s2⟩ := List.mem_filter.mp hs
    have ps := (ord_perm up).mp s1
    refine List.mem_filter.mpr ⟨(ord_perm up).mpr ((perm_map_for up l ps).trans pq), decide_eq_true ?_⟩
    show (ts.map (nameT p q)).Perm (ts.map (nameT p (s.map (forL p q))))
    rw [← names_then ps.length_eq he]
    exact ((of_decide_eq_true s2).map _).symm
  · obtain ⟨r1, r2⟩ := List.mem_filter.mp hr
    have pr := (ord_perm up).mp r1
    have r2 := of_decide_eq_true r2
    refine List.mem_filter.mpr ⟨(ord_perm up).mpr (perm_map_for uq l.symm (pr.trans pq.symm)), decide_eq_true ?_⟩
    rw [← names_then pr.length_eq he]
    have := (r2.symm.map (nameT q p))
    refine this.trans ?_
    rw [names_then l he]
    have e : q.map (forL q p) = p := map_for uq l.symm
    rw [e, names_self ot]
  · obtain ⟨s1, s2⟩ := List.mem_filter.mp hs
    have ps := (ord_perm up).mp s1
    exact map_back uq l fun c hc => ps.subset hc
  · obtain ⟨r1, r2⟩ := List.mem_filter.mp hr
    have pr := (ord_perm up).mp r1
    exact map_back up l.symm fun c hc => pq.symm.subset (pr.subset hc)
theorem own_pos {p : List Nat} {ts : List Str} (up : p.Nodup) (ot : OkT p ts) : 1 ≤ ownN p ts := by
  unfold ownN
  exact List.length_pos_iff.mpr (List.ne_nil_of_mem (List.mem_filter.mpr ⟨(ord_perm up).mpr (.refl p), decide_eq_true (by rw [names_self ot])⟩))
end K10
set_option Elab.async false
set_option linter.all false
set_option maxRecDepth 100000
namespace K10
open PySem PySem.Spec PyProof.Rows L2 DL PySem.W
/-! ### the ties counted -/
def cT (ts : List Str) (a b : Nat) : Nat := ts.count (tie2 a b)
theorem cT_comm (ts : List Str) (a b : Nat) : cT ts a b = cT ts b a := by unfold cT; rw [tie2_comm]
def goesB (p : List Nat) (ts : List Str) (v : List Nat) (c : Nat) : Bool :=
  !decide (c ∈ v) && (List.range (v.length + 1)).all fun i => decide (cT ts (p.getD i 0) (p.getD v.length 0) = cT ts ((v ++ [c]).getD i 0) c)
def goesW (p : List Nat) (ts : List Str) (w : List Nat) : Bool := goesB p ts w.dropLast (w.getLast?.getD 0)
theorem goesW_snoc (p : List Nat) (ts : List Str) (v : List Nat) (c : Nat) : goesW p ts (v ++ [c]) = goesB p ts v c := by
  unfold goesW
  rw [List.dropLast_concat, List.getLast?_concat]
  rfl
def longP (p : List Nat) (F : List (List Nat)) : List (List Nat) := F.flatMap fun v => p.map fun c => v ++ [c]
def rowsP (p : List Nat) (ts : List Str) : Nat → List (List Nat)
  | 0 => [[]]
  | k + 1 => (longP p (rowsP p ts k)).filter (goesW p ts)
theorem long_few {p : List Nat} (l : p.length ≤ 4) {F : List (List Nat)} {a : Nat} (h : F.length ≤ a) : (longP p F).length ≤ a * 4 := grow_few h (fun _ => p) fun _ => l
theorem rowsP_few {p : List Nat} {ts : List Str} (l : p.length ≤ 4) : ∀ k, (rowsP p ts k).length ≤ 4 ^ k
  | 0 => Nat.le_refl _
  | k + 1 => Nat.le_trans (List.length_filter_le _ _) (long_few l (rowsP_few l k))
theorem rowsP_nodup {p : List Nat} {ts : List Str} (up : p.Nodup) : ∀ k, (rowsP p ts k).Nodup
  | 0 => List.nodup_cons.mpr ⟨List.not_mem_nil, List.nodup_nil⟩
  | k + 1 => (grow_nodup (rowsP_nodup up k) (fun _ => p) fun _ => up).filter _
def SameC (p : List Nat) (ts : List Str) (w : List Nat) : Prop := ∀ j, j < w.length → ∀ i, i ≤ j → cT ts (p.getD i 0) (p.getD j 0) = cT ts (w.getD i 0) (w.getD j 0)
theorem getD_app {v : List Nat} {c i : Nat} (h : i < v.length) : (v ++ [c]).getD i 0 = v.getD i 0 := by
  rw [List.getD_eq_getElem?_getD, List.getElem?_append_left h, ← List.getD_eq_getElem?_getD]
theorem getD_end {v : List Nat} {c : Nat} : (v ++ [c]).getD v.length 0 = c := by
  rw [List.getD_eq_getElem?_getD, List.getElem?_append_right (Nat.le_refl _), Nat.sub_self]
  rfl
theorem rowsP_mem {p : List Nat} {ts : List Str} : ∀ {k : Nat} {w : List Nat}, w ∈ rowsP p ts k ↔ w.length = k ∧ w.Nodup ∧ (∀ c ∈ w, c ∈ p) ∧ SameC p ts w
  | 0, w => by
    constructor
    · intro h
      rw [List.mem_singleton.mp h]
      exact ⟨rfl, List.nodup_nil, fun c hc => absurd hc List.not_mem_nil, fun j hj => absurd hj (Nat.not_lt_zero _)⟩
    · rintro ⟨h, _⟩
      rw [List.length_eq_zero_iff.mp h]
      exact List.mem_singleton.mpr rfl
  | k + 1, w => by
    show w ∈ (longP p (rowsP p ts k)).filter (goesW p ts) ↔ _
    rw [List.mem_filter]
    unfold longP
    rw [List.mem_flatMap]
    have one : ∀ {v : List Nat} {c : Nat}, goesB p ts v c = true ↔ c ∉ v ∧ ∀ i, i ≤ v.length → cT ts (p.getD i 0) (p.getD v.length 0) = cT ts ((v ++ [c]).getD i 0) c := fun {v c} => by
      unfold goesB
      rw [Bool.and_eq_true, List.all_eq_true, Bool.not_eq_true', decide_eq_false_iff_not]
      refine and_congr Iff.rfl ⟨fun h i hi => of_decide_eq_true (h i (List.mem_range.mpr (by omega))), fun h i hi => decide_eq_true (h i (by have := List.mem_range.mp hi; omega))⟩
    constructor
    · rintro ⟨⟨v, hv, hw⟩, hg⟩
      obtain ⟨c, hc, rfl⟩ := List.mem_map.mp hw
      rw [goesW_snoc] at hg
      obtain ⟨g1, g2⟩ := one.mp hg
      obtain ⟨v1, v2, v3, v4⟩ := rowsP_mem.mp hv
      refine ⟨by rw [List.length_append, v1]; rfl, snoc_nodup.mpr ⟨v2, g1⟩, fun x hx => ?_, fun j hj i hi => ?_⟩
      · rcases List.mem_append.mp hx with z | z
        · exact v3 x z
        · rw [List.mem_singleton.mp z]; exact hc
      · rw [List.length_append, List.length_singleton] at hj
        by_cases e : j = v.length
        · subst e
          rw [getD_end]
          exact g2 i hi
        · rw [getD_app (by omega), getD_app (by omega)]
          exact v4 j (by omega) i hi
    · rintro ⟨h1, h2, h3, h4⟩
      obtain ⟨v, c, rfl, hv⟩ := snoc_of h1
      obtain ⟨n1, n2⟩ := snoc_nodup.mp h2
      refine ⟨⟨v, rowsP_mem.mpr ⟨hv, n1, fun x hx => h3 x (List.mem_append_left _ hx), fun j hj i hi => ?_⟩, List.mem_map.mpr ⟨c, h3 c (List.mem_append_right _ (List.mem_singleton.mpr rfl)), rfl⟩⟩, ?_⟩
      · have := h4 j (by rw [List.length_append]; omega) i hi
        rwa [getD_app (by omega), getD_app (by omega)] at this
      · rw [goesW_snoc]
        refine one.mpr ⟨n2, fun i hi => ?_⟩
        have := h4 v.length (by rw [List.length_append, List.length_singleton]; omega) i hi
        rwa [getD_end] at this
theorem tie_cnt {f : Nat → Nat} {p : List Nat} (inj : ∀ c ∈ p, ∀ d ∈ p, f c = f d → c = d) {a b : Nat} (ha : a ∈ p) (hb : b ∈ p) : ∀ {ts : List Str}, OkT p ts → (ts.map (tieF f)).count (tie2 (f a) (f b)) = ts.count (tie2 a b)
  | [], _ => rfl
  | y :: ts, ot => by
    obtain ⟨c, d, rfl, hc, hd, cd⟩ := ot.ties y List.mem_cons_self
    rw [List.map_cons, List.count_cons, List.count_cons, tie_cnt inj ha hb ⟨fun z hz => ot.ties z (List.mem_cons_of_mem _ hz)⟩, tie_two cd, tieF_two]
    congr 1
    have e : (tie2 (f c) (f d) = tie2 (f a) (f b)) ↔ (tie2 c d = tie2 a b) := by
      constructor
      · intro h
        rcases tie2_inj h with ⟨h1, h2⟩ | ⟨h1, h2⟩
        · rw [inj c hc a ha h1, inj d hd b hb h2]
        · rw [inj c hc b hb h1, inj d hd a ha h2, tie2_comm]
      · intro h
        rcases tie2_inj h with ⟨h1, h2⟩ | ⟨h1, h2⟩
        · rw [h1, h2]
        · rw [h1, h2, tie2_comm]
    by_cases q : tie2 c d = tie2 a b
    · rw [if_pos (by rw [beq_iff_eq]; exact e.mpr q), if_pos (by rw [beq_iff_eq]; exact q)]
    · rw [if_neg (by rw [beq_iff_eq]; exact fun z => q (e.mp z)), if_neg (by rw [beq_iff_eq]; exact q)]
theorem getD_mem {w : List Nat} {i : Nat} (h : i < w.length) : w.getD i 0 ∈ w := by
  rw [List.getD_eq_getElem?_getD, List.getElem?_eq_getElem h]
  exact List.getElem_mem _
theorem keeps_iff {p w : List Nat} {ts : List Str} (up : p.Nodup) (ot : OkT p ts) (pw : w.Perm p) : SameC p ts w ↔ (ts.map (nameT p w)).Perm ts := by
  have uw : w.Nodup := pw.nodup_iff.mpr up
  have l := pw.length_eq
  have inj : ∀ c ∈ p, ∀ d ∈ p, forL p w c = forL p w d → c = d := fun c hc d hd e => for_inj uw l hc hd e
  have at_ : ∀ {i : Nat}, i < w.length → w.getD i 0 = forL p w (p.getD i 0) := fun {i} hi => by
    have hp : i < p.length := by omega
    rw [List.getD_eq_getElem?_getD, List.getElem?_eq_getElem hi, List.getD_eq_getElem?_getD, List.getElem?_eq_getElem hp]
    exact (for_at up l hp).symm
  have pin : ∀ {i : Nat}, i < w.length → p.getD i 0 ∈ p := fun {i} hi => getD_mem (by omega)
  constructor
  · intro h
    have all : ∀ a ∈ p, ∀ b ∈ p, cT ts a b = cT ts (forL p w a) (forL p w b) := fun a ha b hb => by
      obtain ⟨i, hi, rfl⟩ := List.getElem_of_mem ha
      obtain ⟨j, hj, rfl⟩ := List.getElem_of_mem hb
      have gi : p.getD i 0 = p[i] := by rw [List.getD_eq_getElem?_getD, List.getElem?_eq_getElem hi]; rfl
      have gj : p.getD j 0 = p[j] := by rw [List.getD_eq_getElem?_getD, List.getElem?_eq_getElem hj]; rfl
      rcases Nat.le_total i j with z | z
      · have := h j (by omega) i z
        rwa [at_ (by omega), at_ (by omega), gi, gj] at this
      · have := h i (by omega) j z
        rw [at_ (by omega), at_ (by omega), gi, gj] at this
        rw [cT_comm, this, cT_comm]
    refine List.perm_iff_count.mpr fun z => ?_
    by_cases q : ∃ a b, a ∈ p ∧ b ∈ p ∧ z = tie2 (forL p w a) (forL p w b)
    · obtain ⟨a, b, ha, hb, rfl⟩ := q
      rw [nameT_F, tie_cnt inj ha hb ot]
      exact all a ha b hb
    · have none1 : z ∉ ts.map (nameT p w) := fun hz => by
        obtain ⟨y, hy, rfl⟩ := List.mem_map.mp hz
        obtain ⟨a, b, rfl, ha, hb, _⟩ := ot.ties y hy
        exact q ⟨a, b, ha, hb, rfl⟩
      have none2 : z ∉ ts := fun hz => by
        obtain ⟨a, b, rfl, ha, hb, ab⟩ := ot.ties z hz
        refine q ⟨forL w p a, forL w p b, name_in l.symm (pw.symm.subset ha), name_in l.symm (pw.symm.subset hb), ?_⟩
        rw [for_back up l.symm (pw.symm.subset ha), for_back up l.symm (pw.symm.subset hb), tie_two ab]
      rw [List.count_eq_zero.mpr none1, List.count_eq_zero.mpr none2]
  · intro h j hj i hi
    have := List.perm_iff_count.mp h (tie2 (forL p w (p.getD i 0)) (forL p w (p.getD j 0)))
    rw [nameT_F, tie_cnt inj (pin (by omega)) (pin hj) ot] at this
    rw [at_ (by omega), at_ hj]
    exact this
/-- as many rows as orders that keep the ties -/
theorem rows_own {p : List Nat} {ts : List Str} (up : p.Nodup) (ot : OkT p ts) : (rowsP p ts p.length).length = ownN p ts := by
  unfold ownN
  refine ((List.perm_ext_iff_of_nodup (rowsP_nodup up _) ((ord_nodup up _).filter _)).mpr fun w => ?_).length_eq
  rw [rowsP_mem, List.mem_filter, ord_perm up]
  constructor
  · rintro ⟨h1, h2, h3, h4⟩
    have pw := perm_of_all h2 h3 h1 up
    exact ⟨pw, decide_eq_true ((keeps_iff up ot pw).mp h4)⟩
  · rintro ⟨pw, h⟩
    exact ⟨pw.length_eq, pw.nodup_iff.mpr up, fun c hc => pw.subset hc, (keeps_iff up ot pw).mpr (of_decide_eq_true h)⟩
/-! ### texts in order -/
theorem le_tr {a b c : List Nat} (h1 : ¬ b < a) (h2 : ¬ c < b) : ¬ c < a := List.not_lt.mpr (List.le_trans (List.not_lt.mp h1) (List.not_lt.mp h2))
theorem rising_pw : ∀ (r : List Str) (x : Str), risingS x r = true → (x :: r).Pairwise fun a b => ¬ b.cps.toList < a.cps.toList
  | [], x, _ => List.pairwise_singleton _ _
  | y :: r, x, h => by
    have h : (!ltCps y.cps.toList x.cps.toList && risingS y r) = true := h
    rw [Bool.and_eq_true, ltCps_eq, Bool.not_eq_true', decide_eq_false_iff_not] at h
    have ih := rising_pw r y h.2
    refine List.pairwise_cons.mpr ⟨fun z hz => ?_, ih⟩
    rcases List.mem_cons.mp hz with rfl | hz
    · exact h.1
    · exact le_tr h.1 ((List.pairwise_cons.mp ih).1 z hz)
theorem sortedS_pw {ys : List Str} (h : sortedS ys = true) : ys.Pairwise fun a b => ¬ b.cps.toList < a.cps.toList := by
  cases ys with
  | nil => exact .nil
  | cons x r => exact rising_pw r x h
theorem str_same {x y : Str} (h : x.cps.toList = y.cps.toList) : x = y := by
  cases x; cases y
  congr 1
  exact Array.toList_inj.mp h
/-- what is sorted, of the same texts, is the same -/
theorem sortedS_one {us vs : List Str} (h : us.Perm vs) (hu : sortedS us = true) (hv : sortedS vs = true) : us = vs :=
  h.eq_of_pairwise (fun a b _ _ h1 h2 => str_same (List.le_antisymm (List.not_lt.mp h1) (List.not_lt.mp h2))) (sortedS_pw hu) (sortedS_pw hv)
def srt (l : List Str) : List Str := l.mergeSort fun a b => !decide (b.cps.toList < a.cps.toList)
theorem srt_perm (l : List Str) : (srt l).Perm l := List.mergeSort_perm _ _
theorem srt_sorted (l : List Str) : sortedS (srt l) = true := by
  refine sortedS_of_pairwise _ ?_
  have := List.pairwise_mergeSort (le := fun a b : Str => !decide (b.cps.toList < a.cps.toList)) (fun a b c h1 h2 => by
    rw [Bool.not_eq_true', decide_eq_false_iff_not] at h1 h2 ⊢
    exact le_tr h1 h2) (fun a b => by
    rw [Bool.or_eq_true, Bool.not_eq_true', Bool.not_eq_true', decide_eq_false_iff_not, decide_eq_false_iff_not]
    rcases List.le_total a.cps.toList b.cps.toList with z | z
    · exact .inl (List.not_lt.mpr z)
    · exact .inr (List.not_lt.mpr z)) l
  refine this.imp fun {a b} h => ?_
  rw [ltCps_eq]
  rwa [Bool.not_eq_true'] at h
theorem srt_of {us l : List Str} (h : us.Perm l) (hu : sortedS us = true) : us = srt l := sortedS_one (h.trans (srt_perm l).symm) hu (srt_sorted l)
theorem srt_same {l m : List Str} (h : l.Perm m) : srt l = srt m := srt_of ((srt_perm l).trans h) (srt_sorted l)
theorem srt_iff {l m : List Str} : srt l = srt m ↔ l.Perm m := ⟨fun h => (srt_perm l).symm.trans (h ▸ srt_perm m), srt_same⟩
/-! ### pages -/
def pgC (f : List Nat) (us : List Str) : List Nat := f ++ us.flatMap fun y => 32 :: y.cps.toList
def pgS (f : List Nat) (us : List Str) : Str := toS (pgC f us)
def firstP (p : List Nat) : List Nat := (List.range p.length).map (· + 97)
def pageP (p : List Nat) (ts : List Str) (q : List Nat) : Str := pgS (firstP p) (srt (ts.map (nameT p q)))
structure IsPlain (p : List Nat) (ts : List Str) (t : Str) : Prop where
  one : ∃ q, q.Perm (firstP p) ∧ t = pageP p ts q
  low : ∀ q, q.Perm (firstP p) → ¬ (pageP p ts q).cps.toList < t.cps.toList
theorem IsPlain.only {p : List Nat} {ts : List Str} {t s : Str} (h : IsPlain p ts t) (k : IsPlain p ts s) : t = s := by
  obtain ⟨q, q1, q2⟩ := h.one
  obtain ⟨r, r1, r2⟩ := k.one
  have h1 := h.low r r1
  have h2 := k.low q q1
  rw [← r2] at h1
  rw [← q2] at h2
  exact str_same (List.le_antisymm (List.not_lt.mp h1) (List.not_lt.mp h2))
theorem first_nodup (p : List Nat) : (firstP p).Nodup := by
  unfold firstP List.Nodup
  rw [List.pairwise_map]
  exact List.nodup_range.imp fun h e => h (by omega)
theorem first_len (p : List Nat) : (firstP p).length = p.length := by unfold firstP; rw [List.length_map, List.length_range]
/-- the plain page doesn't rest on the letters -/
theorem plain_named {p q m : List Nat} {ts : List Str} (uq : q.Pairwise (· ≠ ·)) (l : q.length = p.length) (pm : m.Perm q) (ot : OkT p ts) {t : Str} (h : IsPlain m (ts.map (nameT p q)) t) : IsPlain p ts t := by
  have he := okT_ends ot
  have um : m.Pairwise (· ≠ ·) := pm.nodup_iff.mpr uq
  have lm : m.length = p.length := by rw [pm.length_eq, l]
  have ef : firstP m = firstP p := by unfold firstP; rw [lm]
  have ep : ∀ r, pageP m (ts.map (nameT p q)) r = pageP p ts (q.map (forL m r)) := fun r => by
    unfold pageP
    rw [names_then l he, ef]
  have fw : ∀ r, r.Perm (firstP p) → (q.map (forL m r)).Perm (firstP p) := fun r hr => by
    have lr : r.length = m.length := by rw [hr.length_eq, first_len, lm]
    have := pm.symm.map (forL m r)
    rw [map_for um lr] at this
    exact this.trans hr
  have bw : ∀ s, s.Perm (firstP p) → ∃ r, r.Perm (firstP p) ∧ q.map (forL m r) = s := fun s hs => by
    have ls : s.length = q.length := by rw [hs.length_eq, first_len, l]
    refine ⟨m.map (forL q s), ?_, ?_⟩
    · have := pm.map (forL q s)
      rw [map_for uq ls] at this
      exact this.trans hs
    · have : q.map (forL m (m.map (forL q s))) = q.map (forL q s) := List.map_congr_left fun c hc => by
        rw [for_map _ rfl (pm.symm.subset hc), for_self (pm.symm.subset hc)]
      rw [this, map_for uq ls]
  obtain ⟨r, r1, r2⟩ := h.one
  rw [ef] at r1
  refine ⟨⟨_, fw r r1, by rw [r2, ep]⟩, fun s hs => ?_⟩
  obtain ⟨r', r3, r4⟩ := bw s hs
  have := h.low r' (by rw [ef]; exact r3)
  rw [ep, r4] at this
  exact this
/-- rows of ties compare as their pages do -/
theorem lex_pages : ∀ {us vs : List Str}, (∀ y ∈ us, y.cps.size = 2) → (∀ y ∈ vs, y.cps.size = 2) → us.length = vs.length →
    PyProof.Rows.lexLt itemOrd (keyToksAll (us.map PyData.str)) (keyToksAll (vs.map PyData.str)) = decide ((us.flatMap fun y => 32 :: y.cps.toList) < vs.flatMap fun y => 32 :: y.cps.toList)
  | [], [], _, _, _ => by
    rw [decide_eq_false (by exact List.lt_irrefl _)]
    exact lex_irrefl _
  | [], v :: vs, _, _, h => by cases h
  | u :: us, [], _, _, h => by cases h
  | u :: us, v :: vs, h1, h2, l => by
    have ih := lex_pages (us := us) (vs := vs) (fun y hy => h1 y (List.mem_cons_of_mem _ hy)) (fun y hy => h2 y (List.mem_cons_of_mem _ hy)) (by simpa using l)
    have su := h1 u List.mem_cons_self
    have sv := h2 v List.mem_cons_self
    obtain ⟨a, b, eu⟩ : ∃ a b, u.cps.toList = [a, b] := by
      have : u.cps.toList.length = 2 := by rw [Array.length_toList]; exact su
      match e : u.cps.toList, this with
      | [a, b], _ => exact ⟨a, b, rfl⟩
    obtain ⟨c, d, ev⟩ : ∃ a b, v.cps.toList = [a, b] := by
      have : v.cps.toList.length = 2 := by rw [Array.length_toList]; exact sv
      match e : v.cps.toList, this with
      | [a, b], _ => exact ⟨a, b, rfl⟩
    rw [List.map_cons, List.map_cons, List.flatMap_cons, List.flatMap_cons, eu, ev]
    by_cases e : u = v
    · have e1 : PyData.eqv (.str u) (.str v) = true := by unfold PyData.eqv; rw [e]; simp
      rw [dataLt_all_yes (by rfl) e1, ih]
      have e2 : [a, b] = [c, d] := by rw [← eu, ← ev, e]
      injection e2 with x1 x2
      injection x2 with x2 _
      subst x1 x2
      refine decide_eq_decide.mpr ?_
      simp [List.cons_lt_cons_iff]
    · have e1 : PyData.eqv (.str u) (.str v) = false := by unfold PyData.eqv; simpa using e
      rw [dataLt_all_no (by rfl) e1, dataLt_str, eu, ev]
      have ne : ¬ (a = c ∧ b = d) := fun ⟨x, y⟩ => e (str_same (by rw [eu, ev, x, y]))
      refine decide_eq_decide.mpr ?_
      simp only [List.cons_append, List.nil_append, List.cons_lt_cons_iff, Nat.lt_irrefl, false_or, true_and]
      constructor
      · rintro (h | ⟨h, h' | ⟨h', h''⟩⟩)
        · exact .inl h
        · exact .inr ⟨h, .inl h'⟩
        · exact absurd h'' (List.lt_irrefl _)
      · rintro (h | ⟨h, h' | ⟨h', h''⟩⟩)
        · exact .inl h
        · exact .inr ⟨h, .inl h'⟩
        · exact absurd ⟨h, h'⟩ ne
theorem app_lt (f : List Nat) {a b : List Nat} : f ++ a < f ++ b ↔ a < b := by
  induction f with
  | nil => exact Iff.rfl
  | cons x f ih => rw [List.cons_append, List.cons_append, List.cons_lt_cons_iff]; simp [ih]
theorem list_pages {us vs : List Str} (h1 : ∀ y ∈ us, y.cps.size = 2) (h2 : ∀ y ∈ vs, y.cps.size = 2) (l : us.length = vs.length) (f : List Nat) :
    dataLt (.list (us.map PyData.str)) (.list (vs.map PyData.str)) = decide ((pgS f us).cps.toList < (pgS f vs).cps.toList) := by
  rw [dataLt_list, lex_pages h1 h2 l]
  refine decide_eq_decide.mpr ?_
  have e : ∀ us, (pgS f us).cps.toList = f ++ us.flatMap fun y => 32 :: y.cps.toList := fun us => toS_list _
  rw [e, e, app_lt]
end K10
set_option Elab.async false
set_option linter.all false
set_option maxRecDepth 100000
namespace DL
open PySem PySem.Spec PyProof.Rows L2
/-! ### zip of two of any kinds: lists, tuples, texts -/
inductive Zk where
  | L (a : Addr) | T (a : Addr) | S (x : Str) (t : Tok)
def Zk.iter : Zk → Addr → Nat → Heap → Prop
  | .L a, it, i, h => h.IsListIter it a i
  | .T a, it, i, h => h.IsTupleIter it a i
  | .S x t, it, i, h => h.IsStrIter it (strIterType x) x t i
def Zk.fp : Zk → Addr → List Addr
  | .L a, it => [it, a]
  | .T a, it => [it, a]
  | .S _ _, it => [it]
def Zk.far : Zk → Addr → Prop
  | .L a, it => a ≠ it
  | .T a, it => a ≠ it
  | .S _ _, _ => True
def Zk.val : Zk → Value
  | .L a => .ref a
  | .T a => .ref a
  | .S x t => .str x t
def Zk.src (K : PySem.W.Frag) (H : Hp) : Zk → List V → Prop
  | .L a, p => SqL K H a p
  | .T a, p => SqT K H a p
  | .S x _, p => p = x.cps.toList.map fun c => V.str ⟨#[c]⟩
theorem Zk.iter_obj {k : Zk} {it : Addr} {i : Nat} {h : Heap} (x : k.iter it i h) : ∃ o vs, h.get? it = some o ∧ o.data = .fields vs := by
  cases k with
  | L a => obtain ⟨o, e, _, d⟩ := x; exact ⟨o, _, e, d⟩
  | T a => obtain ⟨o, e, _, d⟩ := x; exact ⟨o, _, e, d⟩
  | S y t => obtain ⟨o, e, _, d⟩ := x; exact ⟨o, _, e, d⟩
theorem Zk.iter_keep {k : Zk} {it : Addr} {i : Nat} {h h' : Heap} (e : ∀ o, h.get? it = some o → h'.get? it = some o) (x : k.iter it i h) : k.iter it i h' := by
  cases k with
  | L a => obtain ⟨o, g, r⟩ := x; exact ⟨o, e o g, r⟩
  | T a => obtain ⟨o, g, r⟩ := x; exact ⟨o, e o g, r⟩
  | S y t => obtain ⟨o, g, r⟩ := x; exact ⟨o, e o g, r⟩
section
variable {X : Cx} {pn : List (Addr × Obj)} {σ : L2.St} {H : Hp} {s : Shared}
theorem Zk.src_one {k : Zk} {p q : List V} (I : Inv X pn σ H s) (a : k.src X.K H p) (b : k.src X.K H q) : p = q := by
  cases k with
  | L c => exact I.list_inj a b
  | T c => exact I.tuple_inj a b
  | S x t => exact Eq.trans a (Eq.symm b)
theorem Zk.draws {k : Zk} {p : List V} {it : Addr} (I : Inv X pn σ H s) (hh : X.A.in1.handled = none) (far : k.far it) (hp : k.src X.K H p) :
    ∃ (n : Nat) (P : Nat → Value → Prop) (St : Nat → Heap → Prop), Draws X.prog X.w X.A.in1 it (k.fp it) n P St ∧ n = p.length ∧ (∀ i, k.iter it i s.heap → St i s.heap) ∧ (∀ i u, P i u → ∃ x, p[i]? = some x ∧ RelV x u) ∧ ∀ i h, St i h → k.iter it i h := by
  have back : ∀ {its : List Value}, Vals p its → ∀ (i : Nat) (u : Value), its.toArray[i]? = some u → ∃ x, p[i]? = some x ∧ RelV x u := fun {its} r i u hu => by
    rw [List.getElem?_toArray] at hu
    have hi : i < its.length := (List.getElem?_eq_some_iff.mp hu).1
    have hi' : i < p.length := by rw [r.length]; exact hi
    have hx : p[i]? = some (p[i]'hi') := List.getElem?_eq_getElem hi'
    obtain ⟨w, hw, rw'⟩ := r.get hx
    rw [hu] at hw
    cases hw
    exact ⟨_, hx, rw'⟩
  cases k with
  | L a =>
    obtain ⟨its, r, hl, _⟩ := I.list hp
    exact ⟨_, _, _, Draws.list hh it a far its.toArray, by rw [List.size_toArray, r.length], fun i x => ⟨x, hl.isList⟩, fun i u hu => back r i u hu, fun i h x => x.1⟩
  | T a =>
    obtain ⟨its, r, hl, _⟩ := I.tuple hp
    exact ⟨_, _, _, Draws.tuple hh it a far its.toArray, by rw [List.size_toArray, r.length], fun i x => ⟨x, hl⟩, fun i u hu => back r i u hu, fun i h x => x.1⟩
  | S x t =>
    have hp : p = x.cps.toList.map fun c => V.str ⟨#[c]⟩ := hp
    refine ⟨_, _, _, Draws.text hh it x t, by rw [hp, List.length_map, Array.length_toList], fun i y => y, fun i u ⟨c, v, hc, e⟩ => ?_, fun i h y => y⟩
    refine ⟨.str ⟨#[c]⟩, ?_, by rw [e]; exact ⟨v, rfl⟩⟩
    rw [hp, List.getElem?_map, Array.getElem?_toList, hc]
    rfl
theorem Zk.begins {k : Zk} {p : List V} (I : Inv X pn σ H s) (hp : k.src X.K H p) : ∃ (o : Obj) (G : Heap → Prop), Begins k.val o G ∧ G s.heap ∧ (∀ (h : Heap) (it : Addr), h.get? it = some o → k.iter it 0 h) ∧ ∀ b ∈ (k.fp 0).drop 1, b < s.heap.objs.size := by
  cases k with
  | L a =>
    obtain ⟨its, r, hl, _⟩ := I.list hp
    exact ⟨_, _, begins_list a its.toArray, hl.isList, fun h it e => ⟨_, e, rfl, rfl⟩, fun b hb => by rw [List.mem_singleton.mp hb]; exact hl.lt⟩
  | T a =>
    obtain ⟨its, r, hl, _⟩ := I.tuple hp
    obtain ⟨ob, ho, _⟩ := id hl
    exact ⟨_, _, begins_tuple a its.toArray, hl, fun h it e => ⟨_, e, rfl, rfl⟩, fun b hb => by rw [List.mem_singleton.mp hb]; exact Heap.lt_size ho⟩
  | S x t => exact ⟨_, _, begins_text x t, trivial, fun h it e => ⟨_, e, rfl, rfl⟩, fun b hb => by cases hb⟩
end
theorem Zk.fp_drop (k : Zk) (it : Addr) : k.fp it = it :: (k.fp 0).drop 1 := by cases k <;> rfl
theorem Zk.far_of {k : Zk} {n it : Addr} (h : ∀ b ∈ (k.fp 0).drop 1, b < n) (l : n ≤ it) : k.far it := by
  cases k with
  | L a => exact Nat.ne_of_lt (Nat.lt_of_lt_of_le (h a List.mem_cons_self) l)
  | T a => exact Nat.ne_of_lt (Nat.lt_of_lt_of_le (h a List.mem_cons_self) l)
  | S x t => exact True.intro
def ItZG (K : PySem.W.Frag) (k1 k2 : Zk) : It :=
  ⟨fun i H => ∃ (p : List V) (q : List V) (x y : V), k1.src K H p ∧ k2.src K H q ∧ p[i]? = some x ∧ q[i]? = some y,
    fun i H v H' => ∃ T x y, v = .ref T ∧ H T = none ∧ H' = upd H T (.tup [x, y]) ∧ (∀ p, k1.src K H p → p[i]? = some x) ∧ ∀ q, k2.src K H q → q[i]? = some y,
    fun i H => ∃ p q : List V, k1.src K H p ∧ k2.src K H q ∧ i ≤ p.length ∧ i ≤ q.length ∧ (i = p.length ∨ i = q.length)⟩
theorem turn_zipG {P : Program} {w : World} {K : PySem.W.Frag} {elts : List Expr} {kk : Nat} {tpos : Pos} {k1 k2 : Zk} {z ti tu i1 i2 : Addr} (D : ZipSep2 z ti tu i1 i2 (k1.fp i1) (k2.fp i2)) (n1 : k1.far i1) (n2 : k2.far i2) :
    Turn P w K (.Tuple elts kk tpos) (ItZG K k1 k2) [z, ti, tu, i1, i2] z (fun i h => IsZip h z ti tu .none ∧ IsTupOf2 h ti (.ref i1) (.ref i2) ∧ (∃ u v, IsTupOf2 h tu u v) ∧ k1.iter i1 i h ∧ k2.iter i2 i h) where
  mem := by simp
  obj := fun i h st c hc => by
    obtain ⟨gz, gti, ⟨x, y, gtu⟩, a1, a2⟩ := st
    obtain ⟨o1, v1, e1, d1⟩ := Zk.iter_obj a1
    obtain ⟨o2, v2, e2, d2⟩ := Zk.iter_obj a2
    have ce : c = z ∨ c = ti ∨ c = tu ∨ c = i1 ∨ c = i2 := by simpa using hc
    rcases ce with q | q | q | q | q
    · rw [q]; exact ⟨_, gz, fun v q => nomatch q⟩
    · rw [q]; exact ⟨_, gti, fun v q => nomatch q⟩
    · rw [q]; exact ⟨_, gtu, fun v q => nomatch q⟩
    · rw [q]; exact ⟨o1, e1, fun v q => by rw [d1] at q; cases q⟩
    · rw [q]; exact ⟨o2, e2, fun v q => by rw [d2] at q; cases q⟩
  keep := fun i h h' st k => by
    obtain ⟨gz, gti, ⟨x, y, gtu⟩, a1, a2⟩ := st
    exact ⟨k z (by simp) _ gz, k ti (by simp) _ gti, ⟨x, y, k tu (by simp) _ gtu⟩, Zk.iter_keep (fun o e => k i1 (by simp) o e) a1, Zk.iter_keep (fun o e => k i2 (by simp) o e) a2⟩
  item := by
    intro X eP ew eK hc i pn s σ H E I fr st hg
    subst eP ew eK
    obtain ⟨gz, gti, ⟨x0, y0, gtu⟩, a1, a2⟩ := st
    have zl : z < s.heap.objs.size := Heap.lt_size gz
    have hh : X.A.in1.handled = none := I.ok.hd hc
    obtain ⟨p, q, x, y, hp, hq, hx, hy⟩ := hg
    obtain ⟨m1, P1, S1, D1, l1, t1, b1, c1⟩ := Zk.draws (it := i1) I hh n1 hp
    obtain ⟨m2, P2, S2, D2, l2, t2, b2, c2⟩ := Zk.draws (it := i2) I hh n2 hq
    have ip : i < m1 := by have := (List.getElem?_eq_some_iff.mp hx).1; omega
    have iq : i < m2 := by have := (List.getElem?_eq_some_iff.mp hy).1; omega
    refine wpAny_pyNext_zipD2_item D D1 D2 gz gti gtu (t1 i a1) (t2 i a2) ip iq fun u1 u2 h' tk p1 p2 z' tu' a1' a2' hT sz hk => ?_
    have a1' := c1 _ _ a1'
    have a2' := c2 _ _ a2'
    obtain ⟨g1, e1, r1⟩ := b1 i u1 p1
    obtain ⟨g2, e2, r2⟩ := b2 i u2 p2
    rw [hx] at e1
    rw [hy] at e2
    cases e1
    cases e2
    refine ⟨_, rfl, wpAny_letOwnedTupleGo_zip (s := { s with heap := h', toks := tk }) z' fun h'' z'' so => ?_⟩
    have hT2 : h''.get? s.heap.objs.size = some { cls := .type "tuple", data := .seq #[u1, u2] } := (so.2 _ (Nat.ne_of_gt zl)).trans hT
    have nw : ObjOk X.prog X.w (upd H s.heap.objs.size (.tup [x, y])) h'' s.heap.objs.size (.tup [x, y]) :=
      ⟨by show 2 ≤ sizeLine; decide, [u1, u2], .cons r1 (.cons r2 .nil), ⟨_, hT2, rfl, _, rfl⟩⟩
    have I1 : Inv X pn σ (upd H s.heap.objs.size (.tup [x, y])) { s with heap := h'', toks := tk } :=
      I.turnedNew (t' := tk) (ch := [z, ti, tu, i1, i2]) (fun c o hb q => (so.2 c (fun q' => hb (by simp [q']))).trans (hk c o (fun q' => hb (by simp [q'])) (fun q' => hb (by simp [q'])) (fun q' => hb (by simp [q'])) (fun q' => hb (by simp [q'])) q)) fr (Nat.le_refl _) nw
    refine ⟨.ref s.heap.objs.size, _, I1, rfl, ⟨_, x, y, rfl, I.hok.fresh (Nat.le_refl _), rfl, fun l hl => by rw [Zk.src_one I hl hp]; exact hx, fun l hl => by rw [Zk.src_one I hl hq]; exact hy⟩, ⟨z'', ?_, ⟨u1, u2, ?_⟩, ?_, ?_⟩, fun c mc => ?_⟩
    · exact (so.2 _ D.TIz).trans (hk _ _ D.TIz D.TITO D.TIi1 D.TIi2 gti)
    · exact (so.2 _ D.TOz).trans tu'
    · exact Zk.iter_keep (fun o e => (so.2 _ (Ne.symm D.zi1)).trans e) a1'
    · exact Zk.iter_keep (fun o e => (so.2 _ (Ne.symm D.zi2)).trans e) a2'
    · have lz : c < s.heap.objs.size := by
        obtain ⟨o1, v1, e1, d1⟩ := Zk.iter_obj a1
        obtain ⟨o2, v2, e2, d2⟩ := Zk.iter_obj a2
        have ce : c = z ∨ c = ti ∨ c = tu ∨ c = i1 ∨ c = i2 := by simpa using mc
        rcases ce with q | q | q | q | q
        · rw [q]; exact zl
        · rw [q]; exact Heap.lt_size gti
        · rw [q]; exact Heap.lt_size gtu
        · rw [q]; exact Heap.lt_size e1
        · rw [q]; exact Heap.lt_size e2
      rw [upd_ne (Nat.ne_of_lt lz)]
      exact (fr c mc).1
  done := by
    intro X eP ew eK hc i pn s σ H E I fr st hg
    subst eP ew eK
    obtain ⟨gz, gti, ⟨x0, y0, gtu⟩, a1, a2⟩ := st
    have hh : X.A.in1.handled = none := I.ok.hd hc
    obtain ⟨p, q, hp, hq, le1, le2, en⟩ := hg
    obtain ⟨m1, P1, S1, D1, l1, t1, b1, c1⟩ := Zk.draws (it := i1) I hh n1 hp
    obtain ⟨m2, P2, S2, D2, l2, t2, b2, c2⟩ := Zk.draws (it := i2) I hh n2 hq
    exact wpAny_pyNext_zipD2_end D D1 D2 gz gti gtu (t1 i a1) (t2 i a2) (by omega) (by omega) (by omega) fun h' tk hk => ⟨rfl, I.turnedL (t' := tk) (ch := [z, ti, tu, i1, i2]) (fun c o hb q =>
      hk c o (fun q' => hb (by simp [q'])) (fun q' => hb (by simp [q'])) (fun q' => hb (by simp [q'])) (fun q' => hb (by simp [q'])) q) fr⟩
  self := fun A i s Q E st h => wpAny_pyIter_zip st.1 h
/-- v is what k tells -/
def ZkV : Zk → V → Prop
  | .L a, v => v = .ref a
  | .T a, v => v = .ref a
  | .S x _, v => v = .str x
def iZipG (K : PySem.W.Frag) (ta : TA) : TI := fun σ H R => ta σ H fun vs H1 => ∃ v1 v2, vs = [v1, v2] ∧ ∀ t1 t2 : Tok, ∃ (k1 k2 : Zk) (p q : List V), ZkV k1 v1 ∧ ZkV k2 v2 ∧ (∀ x t, k1 = .S x t → t = t1) ∧ (∀ x t, k2 = .S x t → t = t2) ∧ k1.src K H1 p ∧ k2.src K H1 q ∧ R (ItZG K k1 k2) H1
theorem zk_val {v : V} {u : Value} (r : RelV v u) : ∃ t1 : Tok, ∀ k : Zk, ZkV k v → (∀ x t, k = .S x t → t = t1) → u = k.val := by
  cases v with
  | str x =>
    obtain ⟨t, rfl⟩ := r
    refine ⟨t, fun k h e => ?_⟩
    cases k with
    | L a => cases h
    | T a => cases h
    | S y t' =>
      cases h
      rw [e _ _ rfl]
      rfl
  | ref a =>
    refine ⟨0, fun k h e => ?_⟩
    cases k with
    | L b => cases h; exact r
    | T b => cases h; exact r
    | S y t' => cases h
  | _ =>
    refine ⟨0, fun k h e => ?_⟩
    cases k <;> cases h
theorem pi_zipG {X : Cx} {e e2 : Expr} {ta : TA} {p pos tpos : Pos} {elts : List Expr} {kk : Nat} (hg : Gl X "zip") (hm : X.mg "zip" = none) (ha : PA X [e, e2] ta)
    (st1 : starEach [e, e2] X.env = (false, eval e X.env) :: starEach [e2] X.env := by rfl) (st2 : (backTo pos (starEach [e2] X.env)).any (·.1) = false := by rfl) :
    PI X (.Tuple elts kk tpos) (.Call (.Name "zip" p) [e, e2] [] pos) (iZipG X.K ta) := by
  refine ⟨fun pn s σ H R I h => ?_⟩
  refine Call_ (ld_blt I hg hm PyProof.Rows.boot_zip (PyProof.Rows.callWith_type1 (thn (ha.run pos pn s σ H _ I h) fun us s1 ⟨vs, H1, I1, r1, q1⟩ => ?_) st1 st2))
  obtain ⟨v1, v2, ex, q1⟩ := q1
  subst ex
  cases r1 with
  | cons r rr =>
    cases rr with
    | cons r' rr =>
      cases rr
      obtain ⟨t1, f1⟩ := zk_val r
      obtain ⟨t2, f2⟩ := zk_val r'
      obtain ⟨k1, k2, l1, l2, z1, z2, y1, y2, hp, hq, q1⟩ := q1 t1 t2
      have g1 := f1 k1 z1 y1
      have g2 := f2 k2 z2 y2
      subst g1 g2
      obtain ⟨o1, G1, B1, w1, s1', m1⟩ := Zk.begins I1 hp
      obtain ⟨o2, G2, B2, w2, s2', m2⟩ := Zk.begins I1 hq
      have all5 : ∀ c, c ∈ [s1.heap.objs.size + 4, s1.heap.objs.size + 2, s1.heap.objs.size + 3, s1.heap.objs.size, s1.heap.objs.size + 1] → FpOk X pn H1 c := fun c mc => by
        have ce : c = s1.heap.objs.size + 4 ∨ c = s1.heap.objs.size + 2 ∨ c = s1.heap.objs.size + 3 ∨ c = s1.heap.objs.size ∨ c = s1.heap.objs.size + 1 := by simpa using mc
        have ge : s1.heap.objs.size ≤ c := by
          rcases ce with z | z | z | z | z
          · rw [z]; exact Nat.le_add_right _ _
          · rw [z]; exact Nat.le_add_right _ _
          · rw [z]; exact Nat.le_add_right _ _
          · rw [z]; exact Nat.le_refl _
          · rw [z]; exact Nat.le_add_right _ _
        exact I1.fpOk ge (I1.hok.fresh ge)
      refine zip_begins2 B1 B2 w1 w2 fun h' gz gti gtu e1 e2 sz hk => wpAny_pyIter_zip gz ?_
      have J2 : Inv X pn σ H1 { s1 with heap := h' } := I1.kept (t' := s1.toks) hk
      have sp := zip_sep2 m1 m2
      rw [← Zk.fp_drop, ← Zk.fp_drop] at sp
      exact ⟨s1.heap.objs.size + 4, [s1.heap.objs.size + 4, s1.heap.objs.size + 2, s1.heap.objs.size + 3, s1.heap.objs.size, s1.heap.objs.size + 1], _, _, H1, rfl, J2,
        turn_zipG sp (Zk.far_of m1 (Nat.le_refl _)) (Zk.far_of m2 (Nat.le_succ _)), ⟨gz, gti, ⟨_, _, gtu⟩, s1' _ _ e1, s2' _ _ e2⟩, all5, q1⟩
/-- what d gives, item by item -/
def feedD : D → List D → Prop
  | .lst xs, l => l = xs
  | .seq xs, l => l = xs
  | .tup xs, l => l = xs
  | .str x, l => l = signs x
  | _, _ => False
def gZipG (ga : GA) : GI := fun δ μ R => ga δ μ fun ds μ1 => ∃ x y xs ys, ds = [x, y] ∧ feedD x xs ∧ feedD y ys ∧ R (pairsL xs ys) μ1
theorem signs_repV {K : PySem.W.Frag} {H : Hp} {μ : Mu} (x : Str) : RepL K H μ (signs x) (x.cps.toList.map fun c => V.str ⟨#[c]⟩) := by
  unfold signs
  generalize x.cps.toList = l
  induction l with
  | nil => exact RepL.nil
  | cons c l ih => exact RepL.cons to_str ih
theorem feed_zk {K : PySem.W.Frag} {H : Hp} {μ : Mu} {d : D} {l : List D} {v : V} (f : feedD d l) (r : Rep K H μ d v) (t : Tok) :
    ∃ (k : Zk) (p : List V), ZkV k v ∧ (∀ x t', k = .S x t' → t' = t) ∧ RepL K H μ l p ∧ ∀ H' μ', Kp H μ H' μ' → k.src K H' p := by
  cases d <;> try exact False.elim f
  · rename_i x
    have f : l = signs x := f
    subst f
    exact ⟨.S x t, _, rep_str r, (fun y t' e => by cases e; rfl), signs_repV x, fun H' μ' k => rfl⟩
  · rename_i xs
    have f : l = xs := f
    subst f
    obtain ⟨a, vs, rfl, im, rl⟩ := rep_tup r
    exact ⟨.T a, vs, rfl, (fun y t' e => by cases e), rl, fun H' μ' k => (im.mono k).sq⟩
  · rename_i xs
    have f : l = xs := f
    subst f
    obtain ⟨a, vs, rfl, e1, e2, rl⟩ := rep_lst r
    exact ⟨.L a, vs, rfl, (fun y t' e => by cases e), rl, fun H' μ' k => SqL.of (k.k1 _ _ e1 e2)⟩
  · rename_i xs
    have f : l = xs := f
    subst f
    unfold Rep at r
    obtain ⟨a, vs, rfl, im, rl⟩ := r
    exact ⟨.L a, vs, rfl, (fun y t' e => by cases e), rl, fun H' μ' k => (im.mono k).sq⟩
theorem di_zipG {X : Cx} {e e2 : Expr} {ga : GA} {p pos tpos : Pos} {elts : List Expr} {kk : Nat} (hg : Gl X "zip") (hm : X.mg "zip" = none) (h : DA X [e, e2] ga)
    (hs : starEach [e, e2] X.env = (false, eval e X.env) :: starEach [e2] X.env := by rfl) (hpl : (backTo pos (starEach [e2] X.env)).any (·.1) = false := by rfl) :
    DI X (.Tuple elts kk tpos) (.Call (.Name "zip" p) [e, e2] [] pos) (gZipG ga) := by
  obtain ⟨t, a1, a2⟩ := h.ex
  refine ⟨_, pi_zipG hg hm a1 hs hpl, fun σ H δ μ Q R rm rs q f => ?_⟩
  refine a2 σ H δ μ _ _ rm rs q fun vs ds H1 μ1 k1 rm1 r1 ⟨x, y, xs, ys, ed, fx, fy, q1⟩ => ?_
  subst ed
  obtain ⟨vx, vy, rfl, rx, ry⟩ := repL2 r1
  refine ⟨vx, vy, rfl, fun t1 t2 => ?_⟩
  obtain ⟨ka, pa, z1, y1, l1, s1⟩ := feed_zk fx rx t1
  obtain ⟨kb, pb, z2, y2, l2, s2⟩ := feed_zk fy ry t2
  refine ⟨ka, kb, pa, pb, z1, z2, y1, y2, s1 H1 μ1 (Kp.refl _ _), s2 H1 μ1 (Kp.refl _ _), f _ _ H1 μ1 k1 rm1 ?_ q1⟩
  have e1 := l1.length
  have e2 := l2.length
  have el : (pairsL xs ys).length = min xs.length ys.length := by unfold pairsL; rw [List.length_zipWith]
  refine ⟨fun i H' hi ⟨μ', k, rm'⟩ => ?_, fun H' ⟨μ', k, rm'⟩ => ?_, fun i H' v H2 hi _ yl μ' k rm' => ?_⟩
  · rw [el] at hi
    exact ⟨pa, pb, pa[i]'(by omega), pb[i]'(by omega), s1 H' μ' k, s2 H' μ' k, List.getElem?_eq_getElem _, List.getElem?_eq_getElem _⟩
  · exact ⟨pa, pb, s1 H' μ' k, s2 H' μ' k, by rw [el]; omega, by rw [el]; omega, by rw [el]; omega⟩
  · obtain ⟨T, u, w, ev, nT, eH, hu, hw⟩ := yl
    subst ev eH
    rw [el] at hi
    have g1 := hu pa (s1 H' μ' k)
    have g2 := hw pb (s2 H' μ' k)
    obtain ⟨dx, ex, rx'⟩ := (l1.mono k _ _).atV g1
    obtain ⟨dy, ey, ry'⟩ := (l2.mono k _ _).atV g2
    refine ⟨.tup [dx, dy], ?_, ?_, Kp.new nT, rm'.laid nT⟩
    · unfold pairsL
      rw [List.getElem?_zipWith, ex, ey]
    · unfold Rep
      exact ⟨T, _, rfl, .inl ⟨upd_same, rm'.free nT⟩, RepL.cons (rx'.mono (Kp.new nT)) (RepL.cons (ry'.mono (Kp.new nT)) RepL.nil)⟩
end DL
set_option Elab.async false
set_option linter.all false
set_option maxRecDepth 100000
namespace DL
open PySem PySem.Spec PyProof.Rows L2
/-! ### a list turned round; list(range(n)) that will change -/
end DL
set_option Elab.async false
set_option linter.all false
set_option maxRecDepth 100000
namespace DL
open PySem PySem.Spec PyProof.Rows L2
/-! ### comprehensions with two sources -/
def tIOf (K : PySem.W.Frag) (g : GI) : TI := fun σ H Q => ∃ δ μ R, RM K H μ ∧ RepS K H μ δ σ ∧ g δ μ R ∧ ∀ J items H' μ', Kp H μ H' μ' → RM K H' μ' → WalkD K J items H' μ' → R items μ' → Q J H'
theorem simI_of {K : PySem.W.Frag} {g : GI} : SimI K (tIOf K g) g := fun σ H δ μ Q R rm rs q f => ⟨δ, μ, R, rm, rs, q, f⟩
theorem DI.pi {X : Cx} {tg e : Expr} {g : GI} (h : DI X tg e g) : PI X tg e (tIOf X.K g) := by
  obtain ⟨t, a, b⟩ := h.ex
  exact ⟨fun pins s σ H R I ⟨δ, μ, R', rm, rs, q, f⟩ => a.run pins s σ H R I (b σ H δ μ R R' rm rs q f)⟩
theorem it_gen {J : It} {n : Nat} {G : Hp → Prop} {Y : Nat → Hp → V → Hp → Prop} (w : Walk J n G Y) (Pv : Nat → Hp → Prop) {Qd : Hp → Prop} (B : (Hp → Prop) → V → Hp → Prop) {start : Hp} (h0 : Pv 0 start) (hG : ∀ i H, i ≤ n → Pv i H → G H)
    (hs : ∀ i x H H', i < n → Pv i H → Y i H x H' → B (Pv (i + 1)) x H') (hd : ∀ H, Pv n H → Qd H) :
    ∃ W : Nat → Nat → Hp → Prop, (∃ m, W 0 m start) ∧ ∀ i m H, W i m H → (J.stop i H ∧ Qd H) ∨ (J.go i H ∧ ∃ Nx : Hp → Prop, (∀ H', Nx H' → ∃ m', m' < m ∧ W (i + 1) m' H') ∧ ∀ x H', J.yld i H x H' → B Nx x H') := by
  refine ⟨fun i m H => m = n - i ∧ i ≤ n ∧ Pv i H, ⟨n, by simp, Nat.zero_le _, h0⟩, ?_⟩
  rintro i m H ⟨rfl, hi, p⟩
  have q := hG i H hi p
  by_cases hlt : i < n
  · exact .inr ⟨w.goes i H hlt q, Pv (i + 1), fun H' p' => ⟨n - (i + 1), by omega, rfl, hlt, p'⟩, fun x H' y => hs i x H H' hlt p (w.yields i H x H' hlt q y)⟩
  · have e : i = n := by omega
    subst e
    exact .inl ⟨w.stops H q, hd H p⟩
structure LcB2 (gt : GG) (gc : GT) (gi1 : GI) (gt1 : GG) (gc1 : GT) (ge : GE) (own own1 : List Nat) (δ : DS) (R : KD) (items : List D) (μ1 : Mu) : Prop where
  ex : ∀ a, μ1 a = none → ∃ Iv : Nat → Mu → Prop, Iv 0 (put μ1 a (.lst [])) ∧
  (∀ i x μ', items[i]? = some x → Iv i μ' → gt x (wiped δ own) fun δ2 => gc δ2 μ' fun b μ2 => if b = true then gi1 δ2 μ2 fun items1 μ3 => ∃ Iv1 : Nat → Mu → Prop, Iv1 0 μ3 ∧
    (∀ j x1 μ4, items1[j]? = some x1 → Iv1 j μ4 → gt1 x1 (wiped δ2 own1) fun δ3 => gc1 δ3 μ4 fun b1 μ5 => if b1 = true then ge δ3 μ5 fun y μ6 => ∃ acc, μ6 a = some (.lst acc) ∧ acc.length < sizeLine ∧ Iv1 (j + 1) (put μ6 a (.lst (acc ++ [y]))) else Iv1 (j + 1) μ5) ∧
    ∀ μ5, Iv1 items1.length μ5 → Iv (i + 1) μ5 else Iv (i + 1) μ2) ∧
  ∀ μ', Iv items.length μ' → ∃ acc, μ' a = some (.lst acc) ∧ R (.lst acc) (del μ' a)
def gLc2 (gi : GI) (gt : GG) (gc : GT) (gi1 : GI) (gt1 : GG) (gc1 : GT) (ge : GE) (own own1 : List Nat) : GE := fun δ μ R => gi δ μ (LcB2 gt gc gi1 gt1 gc1 ge own own1 δ R)
theorem sim_lc2 {K : PySem.W.Frag} {ti ti1 : TI} {gi gi1 : GI} {g g1 : TG} {gg gg1 : GG} {ow ow1 : List Nat} {tc tc1 : TT} {gc gc1 : GT} {te : TE} {ge : GE} {own own1 : List Nat} (hi : SimI K ti gi) (sg : SimG K g gg ow) (ho : ∀ i ∈ ow, i ∈ own) (hc : SimT K tc gc)
    (hi1 : SimI K ti1 gi1) (sg1 : SimG K g1 gg1 ow1) (ho1 : ∀ i ∈ ow1, i ∈ own1) (hc1 : SimT K tc1 gc1) (he : SimE K te ge) :
    SimE K (tLc2 ti g tc ti1 g1 tc1 te own own1) (gLc2 gi gg gc gi1 gg1 gc1 ge own own1) := by
  intro σ H δ μ Q R rm rs q f
  refine hi σ H δ μ _ _ rm rs q fun J items H1 μ1 k1 rm1 wk q1 => ?_
  intro D nD
  obtain ⟨Iv, h0, hstep, hend⟩ := q1.ex D (rm1.free nD)
  have kc : Kp H1 μ1 (upd H1 D (.lst [])) (put μ1 D (.lst [])) := Kp.cell nD
  refine it_gen wk (fun i H => ∃ μ, Kp H1 μ1 H μ ∧ RM K H μ ∧ Iv i μ) (fun Nx x H' => g x (L2.wipe σ own) H' fun σ2 H2 => L2.wipe σ2 own = L2.wipe σ own ∧ tc σ2 H2 fun b H3 =>
    if b = true then ti1 σ2 H3 fun J1 H4 => ∃ W1 : Nat → Nat → Hp → Prop, (∃ m, W1 0 m H4) ∧ ∀ j k H, W1 j k H →
      (J1.stop j H ∧ Nx H) ∨ (J1.go j H ∧ ∃ Nx1 : Hp → Prop, (∀ H', Nx1 H' → ∃ k', k' < k ∧ W1 (j + 1) k' H') ∧ ∀ x H', J1.yld j H x H' → g1 x (L2.wipe σ2 own1) H' fun σ3 H5 => L2.wipe σ3 own1 = L2.wipe σ2 own1 ∧ tc1 σ3 H5 fun b H6 =>
        if b = true then te σ3 H6 fun y H7 => ∃ acc, H7 D = some (.lst acc) ∧ acc.length < sizeLine ∧ Nx1 (upd H7 D (.lst (acc ++ [y]))) else Nx1 H6)
    else Nx H3) ⟨_, kc, rm1.cell nD RepL.nil, h0⟩ (fun i H _ ⟨μ, k, rm, _⟩ => ⟨μ, k, rm⟩) ?_ ?_
  · rintro i x H2 H3 hi2 ⟨μ2, k2, rm2, iv⟩ y
    obtain ⟨d, e1, r1, k3, rm3⟩ := y μ2 k2 rm2
    have rsw : RepS K H3 μ2 (wiped δ own) (L2.wipe σ own) := (rs.mono (k1.trans (k2.trans k3))).wipe own
    refine sg x d _ H3 _ μ2 _ _ rm3 rsw r1 (hstep i d μ2 e1 iv) fun σ4 δ4 rs4 q4 w4 => ⟨(w4 own ho).trans wipe_wipe, ?_⟩
    refine hc σ4 H3 δ4 μ2 _ _ rm3 rs4 q4 fun b H5 μ5 k5 rm5 q5 => ?_
    have kk : Kp H1 μ1 H5 μ5 := k2.trans (k3.trans k5)
    cases b with
    | false => exact ⟨μ5, kk, rm5, q5⟩
    | true =>
      rw [if_pos rfl] at q5 ⊢
      refine hi1 σ4 H5 δ4 μ5 _ _ rm5 (rs4.mono k5) q5 fun J1 items1 H6 μ6 k6 rm6 wk1 q6 => ?_
      obtain ⟨Iv1, g0, gstep, gend⟩ := q6
      refine it_gen wk1 (fun j H => ∃ μ, Kp H6 μ6 H μ ∧ RM K H μ ∧ Iv1 j μ) (fun Nx1 x H' => g1 x (L2.wipe σ4 own1) H' fun σ3 H5 => L2.wipe σ3 own1 = L2.wipe σ4 own1 ∧ tc1 σ3 H5 fun b H6 =>
        if b = true then te σ3 H6 fun y H7 => ∃ acc, H7 D = some (.lst acc) ∧ acc.length < sizeLine ∧ Nx1 (upd H7 D (.lst (acc ++ [y]))) else Nx1 H6) ⟨_, Kp.refl _ _, rm6, g0⟩ (fun i H _ ⟨μ, k, rm, _⟩ => ⟨μ, k, rm⟩) ?_ ?_
      · rintro j x1 H7 H8 hj ⟨μ7, k7, rm7, iv1⟩ y1
        obtain ⟨d1, e2, r2, k8, rm8⟩ := y1 μ7 k7 rm7
        have rsw1 : RepS K H8 μ7 (wiped δ4 own1) (L2.wipe σ4 own1) := (rs4.mono (k5.trans (k6.trans (k7.trans k8)))).wipe own1
        refine sg1 x1 d1 _ H8 _ μ7 _ _ rm8 rsw1 r2 (gstep j d1 μ7 e2 iv1) fun σ9 δ9 rs9 q9 w9 => ⟨(w9 own1 ho1).trans wipe_wipe, ?_⟩
        refine hc1 σ9 H8 δ9 μ7 _ _ rm8 rs9 q9 fun b1 H10 μ10 k10 rm10 q10 => ?_
        cases b1 with
        | false => exact ⟨μ10, k7.trans (k8.trans k10), rm10, q10⟩
        | true =>
          rw [if_pos rfl] at q10 ⊢
          refine he σ9 H10 δ9 μ10 _ _ rm10 (rs9.mono k10) q10 fun v d11 H11 μ11 k11 rm11 r11 q11 => ?_
          obtain ⟨acc, ea, hl, iv11⟩ := q11
          obtain ⟨vs, h1, h2⟩ := rm11 D _ ea
          refine ⟨vs, h1, by rw [h2.length]; exact hl, _, k7.trans (k8.trans (k10.trans (k11.trans (Kp.write ea)))), ?_, iv11⟩
          refine rm11.put (Kp.write ea) (fun a o n _ => upd_ne n) ⟨_, upd_same, ?_⟩
          exact (h2.append (RepL.cons r11 RepL.nil)).mono (Kp.write ea) _ _
      · rintro H7 ⟨μ7, k7, rm7, iv1⟩
        exact ⟨μ7, kk.trans (k6.trans k7), rm7, gend μ7 iv1⟩
  · rintro H2 ⟨μ2, k2, rm2, iv⟩
    obtain ⟨acc, ea, q3⟩ := hend μ2 iv
    obtain ⟨vs, h1, h2⟩ := rm2 D _ ea
    refine f (.ref D) (.lst acc) H2 (del μ2 D) (k1.trans (k2.trans Kp.drop)) rm2.drop ?_ q3
    unfold Rep
    exact ⟨D, vs, rfl, h1, del_same, h2.mono Kp.drop _ _⟩
section
variable {X : Cx} {elt tg iter tg1 iter1 : Expr} {ifs ifs1 : List Expr} {scope : Scope} {own : List (Str × Nat)} {vs1 : List Nat} {pos spos : Pos} {gi gi1 : GI} {g g1 : TG} {gg gg1 : GG} {ow ow1 : List Nat} {gc gc1 : GT} {ge : GE}
theorem ds_setLc2 {i : Nat} {y : Str} {py : Pos} (hc : X.calm = true) (hN : X.N.Nodup) (hy : X.N[i]? = some y) (hyl : X.env.scope.names.lookup y = some .local)
    (hsw : swapsWith (.ListComp elt [⟨tg, iter, ifs, 0⟩, ⟨tg1, iter1, ifs1, 0⟩] scope pos) (some (.Name y py)) spos.line X.env = pure true) (hi : DI X tg iter gi) (ok : BlkOk X.N X.env.scope scope own)
    (hg : ∀ (s : Shared) (H : Hp) (C : Addr) (cl : List (Str × Addr)) (fp : List Addr), PG (X.blk s H scope (compEnvC scope cl C X.env) fp) tg g) (sg : SimG X.K g gg ow) (ht : ∀ (s : Shared) (H : Hp) (C : Addr) (cl : List (Str × Addr)) (fp : List Addr), DTs (X.blk s H scope (compEnvC scope cl C X.env) fp) ifs gc)
    (hi1 : ∀ (s : Shared) (H : Hp) (C : Addr) (cl : List (Str × Addr)) (fp : List Addr), DI (X.blk s H scope (compEnvC scope cl C X.env) fp) tg1 iter1 gi1)
    (hg1 : ∀ (s : Shared) (H : Hp) (C : Addr) (cl : List (Str × Addr)) (fp : List Addr), PG (X.blk s H scope (compEnvC scope cl C X.env) fp) tg1 g1) (sg1 : SimG X.K g1 gg1 ow1) (ht1 : ∀ (s : Shared) (H : Hp) (C : Addr) (cl : List (Str × Addr)) (fp : List Addr), DTs (X.blk s H scope (compEnvC scope cl C X.env) fp) ifs1 gc1)
    (he : ∀ (s : Shared) (H : Hp) (C : Addr) (cl : List (Str × Addr)) (fp : List Addr), DE (X.blk s H scope (compEnvC scope cl C X.env) fp) elt ge) (ho : ∀ i ∈ ow, i ∈ own.map (·.2) := by decide) (ho1 : ∀ i ∈ ow1, i ∈ vs1 := by decide) (hv : ∀ i ∈ vs1, i ∈ own.map (·.2) := by decide)
    (hs : ∀ x, foldedSetIterable iter X.env x = pure x := by intro _; rfl) (hs1 : ∀ env x, foldedSetIterable iter1 env x = pure x := by intro _ _; rfl) :
    DSt X (.Assign [.Name y py] (.ListComp elt [⟨tg, iter, ifs, 0⟩, ⟨tg1, iter1, ifs1, 0⟩] scope pos) spos) (gAsg (gLc2 gi gg gc gi1 gg1 gc1 ge (own.map (·.2)) vs1) (gNm i)) := by
  obtain ⟨ti, i1, i2⟩ := hi.ex
  exact ⟨_, ps_setLc2 hc hN hy hyl hsw i1 ok hv hg (fun s H C cl fp => (ht s H C cl fp).pt) (fun s H C cl fp => (hi1 s H C cl fp).pi) hg1 (fun s H C cl fp => (ht1 s H C cl fp).pt) (fun s H C cl fp => (he s H C cl fp).pe) hs hs1, sim_asg (sim_lc2 i2 sg ho simT_of simI_of sg1 ho1 simT_of sim_of) sim_nm⟩
end
/-- what the inner source gives at each outer item: L; kept: p; made: f -/
theorem lcb2_pure {gt : GG} {gi1 : GI} {gt1 : GG} {gc1 : GT} {ge : GE} {own own1 : List Nat} {δ : DS} {R : KD} {items : List D} {μ1 : Mu} (L : D → List D) (p : D → D → Bool) (f : D → D → D) (hl : (items.map fun x => (L x).length).sum < sizeLine)
    (hx : ∀ x ∈ items, ∀ (μ' : Mu) (Kk : DS → List D → Mu → Prop), (∀ b o, μ1 b = some o → μ' b = some o) →
      (∀ δ2, (∀ x1 ∈ L x, ∀ (μ4 : Mu) (N : Mu → Prop) (Y : KD), (∀ b o, μ1 b = some o → μ4 b = some o) → (p x x1 = false → N μ4) → (p x x1 = true → Y (f x x1) μ4) → gt1 x1 (wiped δ2 own1) fun δ3 => gc1 δ3 μ4 fun b1 μ5 => if b1 = true then ge δ3 μ5 Y else N μ5) → Kk δ2 (L x) μ') →
      gt x (wiped δ own) fun δ2 => gi1 δ2 μ' (Kk δ2))
    (hr : R (.lst (items.flatMap fun x => ((L x).filter (p x)).map (f x))) μ1) : LcB2 gt gYes gi1 gt1 gc1 ge own own1 δ R items μ1 := by
  refine ⟨fun a na => ?_⟩
  have len : ∀ l : List D, (l.flatMap fun x => ((L x).filter (p x)).map (f x)).length ≤ (l.map fun x => (L x).length).sum := fun l => by
    induction l with
    | nil => exact Nat.le_refl _
    | cons x l ih =>
      rw [List.flatMap_cons, List.length_append, List.map_cons, List.sum_cons, List.length_map]
      have := List.length_filter_le (p x) (L x)
      omega
  have part : ∀ i, ((items.take i).map fun x => (L x).length).sum ≤ (items.map fun x => (L x).length).sum := fun i => by
    have : (items.map fun x => (L x).length).sum = ((items.take i).map fun x => (L x).length).sum + ((items.drop i).map fun x => (L x).length).sum := by
      rw [← List.sum_append_nat, ← List.map_append, List.take_append_drop]
    omega
  refine ⟨fun i μ' => μ' = put μ1 a (.lst ((items.take i).flatMap fun x => ((L x).filter (p x)).map (f x))), rfl, fun i x μ' hi e => ?_, fun μ' e => ?_⟩
  · subst e
    have hm : x ∈ items := List.mem_of_getElem? hi
    have ht := take_succ_get hi
    have kp : ∀ (l : List D) b o, μ1 b = some o → put μ1 a (.lst l) b = some o := fun l b o e => by
      rw [put_ne (fun z => by rw [z, na] at e; cases e)]
      exact e
    refine hx x hm (put μ1 a (.lst ((items.take i).flatMap fun x => ((L x).filter (p x)).map (f x)))) _ (kp _) fun δ2 hin => ?_
    refine ⟨fun j μ4 => μ4 = put μ1 a (.lst (((items.take i).flatMap fun x => ((L x).filter (p x)).map (f x)) ++ (((L x).take j).filter (p x)).map (f x))), by dsimp only; rw [List.take_zero, List.filter_nil, List.map_nil, List.append_nil], fun j x1 μ4 hj e4 => ?_, fun μ5 e5 => ?_⟩
    · subst e4
      have hm1 : x1 ∈ L x := List.mem_of_getElem? hj
      have ht1 := take_succ_get hj
      refine hin x1 hm1 _ _ _ (kp _) (fun hp => ?_) fun hp => ?_
      · dsimp only
        rw [ht1, List.filter_append, List.map_append]
        have : List.filter (p x) [x1] = [] := by rw [List.filter_cons, hp]; rfl
        rw [this, List.map_nil, List.append_nil]
      · refine ⟨_, put_same, ?_, ?_⟩
        · have h1 := len (items.take (i + 1))
          have h2 := part (i + 1)
          rw [ht, List.flatMap_append, List.length_append] at h1
          have h3 : (([x] : List D).flatMap fun x => ((L x).filter (p x)).map (f x)).length = ((L x).filter (p x)).length := by
            rw [List.flatMap_cons, List.flatMap_nil, List.append_nil, List.length_map]
          have h4 : (((L x).take j).filter (p x)).length ≤ ((L x).filter (p x)).length := (List.Sublist.filter (p x) (List.take_sublist j (L x))).length_le
          rw [List.length_append, List.length_map]
          rw [h3] at h1
          rw [ht] at h2
          omega
        · dsimp only
          rw [put_put, ht1, List.filter_append, List.map_append]
          have : List.filter (p x) [x1] = [x1] := by rw [List.filter_cons, hp]; rfl
          rw [this, ← List.append_assoc]
          rfl
    · subst e5
      rw [List.take_length, ht, List.flatMap_append, List.flatMap_cons, List.flatMap_nil, List.append_nil]
  · subst e
    refine ⟨_, put_same, ?_⟩
    rw [List.take_length, del_put na]
    exact hr
end DL
set_option Elab.async false
set_option linter.all false
set_option maxRecDepth 100000
namespace DL
open PySem PySem.Spec PyProof.Rows L2
/-! ### sorted of a tuple of tuples of ints -/
end DL
set_option Elab.async false
set_option linter.all false
set_option maxRecDepth 100000
namespace DL
open PySem PySem.Spec PyProof.Rows L2
/-! ### dicts whose keys are tuples of ints and texts -/
def ik (l : List Int) : List Key := l.map Sum.inl
/-! ### d.setdefault(t, e) -/
/-! ### the keys of a dict that is let go: walked, listed, sorted -/
end DL
set_option Elab.async false
set_option linter.all false
set_option maxRecDepth 100000
namespace DL
open PySem PySem.Spec PyProof.Rows L2
/-! ### d.get(k, e), keys that are numbers or texts -/
def gDGet2 (go gi gx : GE) : GE := fun δ μ R => go δ μ fun x μ1 => (∃ a kvs, x = .adr a ∧ μ1 a = some (.dct kvs)) ∧ gi δ μ1 fun y μ2 => gx δ μ2 fun z μ3 =>
  ∃ (a : Addr) (kvs : List (Key × D)) (k : Key), x = .adr a ∧ μ3 a = some (.dct kvs) ∧ keyOf y = some k ∧ R ((valD kvs k).getD z) μ3
section
variable {X : Cx} {o i e f : Expr} {pos apos cpos : Pos} {go gi ge : GE}
theorem de_dget2 (hu : X.A.units + 1 < cLine) (ho : DE X o go) (he : DE X e gi) (hf : DE X f ge) (m : M2 X o "get" apos e f cpos) : DE X (.Call (.Attribute o "get" apos) [e, f] [] cpos) (gDGet2 go gi ge) := by
  obtain ⟨t, a1, a2⟩ := ho.ex
  obtain ⟨t2, b1, b2⟩ := he.ex
  obtain ⟨t3, c1, c2⟩ := hf.ex
  refine ⟨_, pe_dget2 hu a1 b1 c1 m, fun σ H δ μ Q R rm rs q f => ?_⟩
  refine a2 σ H δ μ _ _ rm rs q fun v d H1 μ1 k1 rm1 r1 q1 => ?_
  obtain ⟨⟨a, kvs0, rfl, e00⟩, q1⟩ := q1
  obtain ⟨kv0, h10, l0⟩ := rm1 a _ e00
  refine ⟨a, rep_adr r1, .inl ⟨_, .inl h10⟩, ?_⟩
  refine b2 σ H1 δ μ1 _ _ rm1 (rs.mono k1) q1 fun y dy H2 μ2 k2 rm2 r2 q2 => ?_
  refine c2 σ H2 δ μ2 _ _ rm2 (rs.mono (k1.trans k2)) q2 fun z dz H3 μ3 k3 rm3 r3 q3 => ?_
  obtain ⟨a', kvs, k, ea, e0, ek, q3⟩ := q3
  cases ea
  obtain ⟨kv, h1, l⟩ := rm3 a _ e0
  have ey := key_rep ek (r2.mono k3)
  refine ⟨valV kv k, by rw [ey]; exact DGet.k h1, ?_⟩
  cases ed : valD kvs k with
  | none =>
    rw [ed] at q3
    rw [l.lookN ed]
    exact f z dz H3 μ3 (k1.trans (k2.trans k3)) rm3 r3 q3
  | some d =>
    rw [ed] at q3
    obtain ⟨w, g1, g2⟩ := l.look ed
    rw [g1]
    exact f w d H3 μ3 (k1.trans (k2.trans k3)) rm3 g2 q3
end
end DL
set_option Elab.async false
set_option linter.all false
set_option maxRecDepth 100000
namespace DL
open PySem PySem.Spec PyProof.Rows L2
/-! ### while -/
/-- {} with keys of texts and numbers -/
def gDNew : GE := fun _ μ R => ∀ a, μ a = none → R (.adr a) (put μ a (.dct []))
theorem de_dnew {X : Cx} {pos : Pos} : DE X (.Dict [] [] pos) gDNew := by
  refine ⟨_, pe_dnewK, fun σ H δ μ Q R rm rs q f => ?_⟩
  intro p n
  exact f (.ref p) (.adr p) _ _ (Kp.cell n) (rm.cellD n (by unfold RepK; rfl)) (by unfold Rep; rfl) (q p (rm.free n))
end DL
set_option Elab.async false
set_option linter.all false
set_option maxRecDepth 100000
namespace DL
open PySem PySem.Spec PyProof.Rows L2
/-! ### sorted of a tuple of texts -/
theorem sorted_strsT {prog : Program} {w : World} {A : Around} {E : Value → Shared → Prop} {s : Shared} {l : Addr} {items : Array Value} {ss : List Str} {Q : Value → Shared → Prop} (hl : IsTup s.heap l items) (hS : StrsAre items.toList ss) (hz : items.size ≤ sizeLine)
    (h : ∀ (h1 h2 : Heap) (out : Array Value) (n : Nat) (ss' : List Str), (∀ b o, s.heap.get? b = some o → h1.get? b = some o) → (∀ b o, h1.get? b = some o → h2.get? b = some o) → h2.get? h1.objs.size = some (seqObj "list" out n) →
      StrsAre out.toList ss' → ss'.Perm ss → sortedS ss' = true → Q (.ref h1.objs.size) { s with heap := h2 }) :
    wpAny (model prog w) A (call (.builtin "sorted") [.ref l]) Q E s := by
  refine Calls.call_function_entry kind_sorted plain_sorted entry_sorted (args_sorted1 _) ?_
  unfold Builtin.«sorted»
  refine wpAny_bind (m := checkCount "sorted" 1 1 _) (wpAny_pure ?_)
  obtain ⟨o, ho, hc, n, hd⟩ := hl
  refine wpAny_bind (wpAny_collect_seq l (.inr rfl) ho hc hd (fun h1 k1 => ?_) hz)
  refine wpAny_bind (wpAny_newList ?_ (by rw [Array.length_toList]; exact hz))
  have hoL : (h1.push (seqObj "list" items.toList.toArray 0)).get? h1.objs.size = some (seqObj "list" items.toList.toArray 0) := Heap.get?_push_size _ rfl
  refine wpAny_bind (wpAny_holding (wpAny_call_entry slot_list_sort ⟨_, hoL, rfl⟩ entry_list_sort (list_sort_treeKAny strKind_oneLt hoL hS.keysOf (fun v₁ v₂ rest e => keyKind_strs (by rw [← e]; exact hS)) (by rw [Array.length_toList]; exact hz) fun st' hp hs => ⟨_, rfl, ?_⟩) (args_list_sort _)))
  obtain ⟨ss', q1, q2, q3⟩ := sorted_out_str hS hp hs
  obtain ⟨n2, hn⟩ := sortedHeap_at (vs := items.toList) (out := (arrOf st').map (·.2)) hoL
  refine wpAny_pure ⟨_, rfl, h h1 _ _ n2 ss' k1 (fun b ob e => ?_) hn q1 q2 q3⟩
  have hb := Heap.lt_size e
  rw [sortedHeap_old (Nat.ne_of_lt hb) (by rw [Heap.size_push]; exact Nat.lt_succ_of_lt hb)]
  exact Heap.get?_push_of_some _ e
def rSortedST (K : PySem.W.Frag) : List V → Hp → VK → Prop := fun vs H Q => ∃ (a : Addr) (ss : List Str), vs = [V.ref a] ∧ SqT K H a (ss.map V.str) ∧
  ∀ (ys : List Str) (p : Addr), ys.Perm ss → sortedS ys = true → H p = none → Q (.ref p) (upd H p (.lst (ys.map V.str)))
theorem cr_sortedST {X : Cx} : CallR X (.builtin "sorted") (rSortedST X.K) := by
  intro pins s σ H vs us Q I r h
  obtain ⟨a, ss, rfl, hs, q⟩ := h
  obtain ⟨its, rv, hl, hz⟩ := I.tuple hs
  rw [Vals.ref1 r]
  have hi := rv.strs
  refine sorted_strsT hl (show StrsAre its.toArray.toList ss from hi) (by rw [List.size_toArray, ← rv.length]; exact hz) fun h1 h2 out n ss' k1 k2 ho a1 a2 a3 => ?_
  have I1 : Inv X pins σ H { s with heap := h1 } := I.kept (t' := s.toks) k1
  have hlen : (ss'.map V.str).length ≤ sizeLine := by rw [List.length_map] at hz ⊢; rw [a2.length_eq]; exact hz
  exact ⟨.ref _, upd H h1.objs.size (.lst (ss'.map V.str)), I1.laid (t' := s.toks) k2 (Nat.le_refl _) ⟨hlen, out.toList, n, vals_of_strs a1, ho⟩, rfl, q ss' _ a2 a3 (I1.hok.fresh (Nat.le_refl _))⟩
def gSortedST1 : G1 := fun x μ R => match x with
  | .tup ds => ∃ ss : List Str, ds = List.map D.str ss ∧ ∀ ys : List Str, ys.Perm ss → sortedS ys = true → R (.lst (List.map D.str ys)) μ
  | _ => False
theorem sim_sortedST {K : PySem.W.Frag} : SimC K (rSortedST K) (g1 gSortedST1) := sim_g1 fun v d H μ Q R rm rv q f => by
  cases d <;> try exact False.elim q
  obtain ⟨ss, rfl, q⟩ := q
  obtain ⟨p, vs, rfl, im, l⟩ := rep_tup rv
  have e := l.strs
  exact ⟨p, ss, rfl, by rw [← e]; exact im.sq, fun ys t hp hs n => fw_lst rm n (RepL.of_strs ys) (q ys hp hs) f⟩
end DL
set_option Elab.async false
set_option linter.all false
set_option maxRecDepth 100000
namespace DL
open PySem PySem.Spec PyProof.Rows L2
/-! ### [e, *d]: a tuple's or a list's items in a display -/
def gStar (g : GE) : GA := fun δ μ R => g δ μ fun x μ1 => match x with
  | .tup ds => R ds μ1
  | .lst ds => R ds μ1
  | _ => False
theorem da_star {X : Cx} {e : Expr} {g : GE} {p : Pos} (h : DE X e g) (hs : starEach [.Starred e p] X.env = (true, eval e X.env) :: starEach [] X.env := by rfl) : DA X [.Starred e p] (gStar g) := by
  obtain ⟨t, a1, a2⟩ := h.ex
  refine ⟨_, StX.pa_star a1 pa_nil hs, fun σ H δ μ Q R rm rs q f => ?_⟩
  refine a2 σ H δ μ _ _ rm rs q fun v d H1 μ1 k1 rm1 r1 q1 => ?_
  cases d <;> try exact False.elim q1
  · obtain ⟨b, vs, rfl, im, l⟩ := rep_tup r1
    refine ⟨b, vs, rfl, .inl im.sq, ?_⟩
    show Q (vs ++ []) H1
    rw [List.append_nil]
    exact f vs _ H1 μ1 k1 rm1 l q1
  · obtain ⟨b, vs, rfl, i, _, l⟩ := rep_lst r1
    refine ⟨b, vs, rfl, .inr (SqL.of i), ?_⟩
    show Q (vs ++ []) H1
    rw [List.append_nil]
    exact f vs _ H1 μ1 k1 rm1 l q1
end DL
set_option Elab.async false
set_option linter.all false
set_option maxRecDepth 100000
namespace DL
open PySem PySem.Spec PyProof.Rows L2
/-! ### o.m(): a method of an own class, without arguments -/
theorem repF_none {K : PySem.W.Frag} {H : Hp} {μ : Mu} {m : Str} : ∀ {fs : List (Str × D)} {fv : List (Str × V)}, RepF K H μ fs fv → fs.lookup m = none → fv.lookup m = none
  | [], fv, h, _ => by
    unfold RepF at h
    rw [h]
    rfl
  | (x, d) :: fs, fv, h, hl => by
    unfold RepF at h
    obtain ⟨v, r, rfl, _, h2⟩ := h
    rw [List.lookup_cons] at hl ⊢
    cases e : m == x with
    | true => rw [e] at hl; cases hl
    | false =>
      rw [e] at hl
      exact repF_none h2 hl
def gMeth0 (C : Addr) (m : Str) (g : GC) (go : GE) : GE := fun δ μ R => go δ μ fun x μ1 => ∃ fs, x = .ins C fs ∧ fs.lookup m = none ∧ g [x] μ1 R
theorem de_meth0 {X : Cx} {k : Nat} {C f : Addr} {m : Str} {fd : FuncData} {ps : List Str} {g : GC} {go : GE} {o : Expr} {apos pos : Pos} {pl : Sem Bool} (he : DE X o go) (c : Cls X.K C) (hm : Meth X.K C m f)
    (F : FnOk X.prog X.w X.K X.mg X.base CX0 k f fd ps (toSp X.K g)) (hr : Room k X.A) (hb : Binds X.K fd ps [])
    (ht : eval (.Call (.Attribute o m apos) [] [] pos) X.env = (do
      let ov ← eval o X.env
      standAt apos.atName
      let (f, first) ← holding [ov] (getMethod ov m pl)
      callWith pos f first (backTo pos (starEach [] X.env)) (backToKw pos (keywordEach [] X.env))) := by rfl) :
    DE X (.Call (.Attribute o m apos) [] [] pos) (gMeth0 C m g go) := by
  obtain ⟨t, a1, a2⟩ := he.ex
  refine ⟨_, pe_meth0 (pl := pl) a1 c hm F hr hb .nil (pass0 (X := X)) ht, fun σ H δ μ Q R rm rs q f => ?_⟩
  refine a2 σ H δ μ _ _ rm rs q fun v d H1 μ1 k1 rm1 r1 q1 => ?_
  obtain ⟨fs, rfl, hl, q1⟩ := q1
  have r0 := r1
  obtain ⟨a, dx, fv, rfl, ea, na, rf⟩ := rep_ins r1
  exact ⟨a, dx, fv, rfl, ea, repF_none rf hl, [.ins C fs], μ1, R, rm1, RepL.cons r0 RepL.nil, q1, f.re k1⟩
end DL
set_option Elab.async false
set_option linter.all false
set_option maxRecDepth 100000
set_option Elab.async false
set_option linter.all false
set_option maxRecDepth 100000
namespace K10
open PySem PySem.Spec PyProof.Rows L2 DL
section
variable {P : Program} {w : World} {K : PySem.W.Frag} {mg : Str → Option Value} {base : Heap} {A : Ad}
/-! ### the law's own lengths -/
theorem OkLen.snoc {n : Nat} {ns : List Int} {d : Int} (h : OkLen n ns) (h1 : -1000000000 ≤ d) (h2 : d ≤ 1000000000) : OkLen (n + 1) (ns ++ [d]) := by
  refine ⟨by rw [List.length_append, h.len]; rfl, fun v hv => ?_, fun v hv => ?_⟩
  · rcases List.mem_append.mp hv with q | q
    · exact h.lo v q
    · rw [List.mem_singleton.mp q]; exact h1
  · rcases List.mem_append.mp hv with q | q
    · exact h.hi v q
    · rw [List.mem_singleton.mp q]; exact h2
end
end K10
set_option Elab.async false
set_option linter.all false
set_option maxRecDepth 100000
set_option Elab.async false
set_option linter.all false
set_option maxRecDepth 100000
namespace K10
open PySem PySem.Spec PyProof.Rows L2 DL
section
variable {P : Program} {w : World} {K : PySem.W.Frag} {mg : Str → Option Value} {base : Heap} {A : Ad}
/-! ### the law's lengths, least trees, one length put -/
theorem OkLen.set {n : Nat} {ns : List Int} (h : OkLen n ns) {e : Nat} {c : Int} (h1 : -1000000000 ≤ c) (h2 : c ≤ 1000000000) : OkLen n (ns.set e c) := by
  refine ⟨by rw [List.length_set]; exact h.len, fun v hv => ?_, fun v hv => ?_⟩
  · rcases List.mem_or_eq_of_mem_set hv with q | q
    · exact h.lo v q
    · rw [q]; exact h1
  · rcases List.mem_or_eq_of_mem_set hv with q | q
    · exact h.hi v q
    · rw [q]; exact h2
end
end K10
set_option Elab.async false
set_option linter.all false
set_option maxRecDepth 100000
namespace K10
open PySem PySem.Spec PyProof.Rows L2 DL
/-! ### least trees by exchanges -/
/-! ### a tie cut, a tie shut: trees without it, trees with it -/
def up (k j : Nat) : Nat := if j < k then j else j + 1
end K10
set_option Elab.async false
set_option linter.all false
set_option maxRecDepth 100000
namespace K10
open PySem PySem.Spec PyProof.Rows L2 DL
/-! ### the least of two parts -/
def LeastI (S : List Int) (m : Int) : Prop := m ∈ S ∧ ∀ y ∈ S, m ≤ y
theorem LeastI.one {S : List Int} {m n : Int} (h : LeastI S m) (k : LeastI S n) : m = n := by
  have := h.2 n k.1
  have := k.2 m h.1
  omega
theorem LeastI.perm {S S' : List Int} {m : Int} (e : S.Perm S') (h : LeastI S m) : LeastI S' m := ⟨e.subset h.1, fun y hy => h.2 y (e.symm.subset hy)⟩
theorem LeastI.some : ∀ {S : List Int}, S ≠ [] → ∃ m, LeastI S m
  | [], h => absurd rfl h
  | [a], _ => ⟨a, List.mem_singleton.mpr rfl, fun y hy => by rw [List.mem_singleton.mp hy]; exact Int.le_refl _⟩
  | a :: b :: l, _ => by
    obtain ⟨m, h1, h2⟩ := LeastI.some (S := b :: l) (List.cons_ne_nil _ _)
    by_cases q : a ≤ m
    · exact ⟨a, List.mem_cons_self, fun y hy => (List.mem_cons.mp hy).elim (fun e => by rw [e]; exact Int.le_refl _) fun z => by have := h2 y z; omega⟩
    · exact ⟨m, List.mem_cons_of_mem _ h1, fun y hy => (List.mem_cons.mp hy).elim (fun e => by rw [e]; omega) (h2 y)⟩
end K10
set_option Elab.async false
set_option linter.all false
set_option maxRecDepth 100000
namespace K10
open PySem PySem.Spec PyProof.Rows L2 DL
section
variable {P : Program} {w : World} {K : PySem.W.Frag} {mg : Str → Option Value} {base : Heap} {A : Ad}
/-! ### a tie put; bridges; blocks; the value at small numbers -/
theorem two_put {a b : Nat} {ms : List Nat} (h : ms.Perm [a, b]) (s : ms.Pairwise (· ≤ ·)) : toS ms = yTie (min a b) (max a b) := by
  have e : ms = [min a b, max a b] := by
    have p2 : [min a b, max a b].Perm [a, b] := by
      rcases Nat.le_total a b with q | q
      · rw [Nat.min_eq_left q, Nat.max_eq_right q]
      · rw [Nat.min_eq_right q, Nat.max_eq_left q]
        exact List.Perm.swap _ _ _
    have s2 : [min a b, max a b].Pairwise (· ≤ ·) := by
      simp
      omega
    exact (h.trans p2.symm).eq_of_pairwise (fun _ _ _ _ x y => Nat.le_antisymm x y) s s2
  rw [e]
  rfl
def nums (l : List Nat) : List D := (l.map Int.ofNat).map D.int
def onI (f : Nat → Nat) : D → D
  | .int k => .int (f k.toNat : Nat)
  | d => d
theorem lot_ok {n : Nat} {v : List Nat} (h : v ∈ lotsL n) (hn : n ≤ 11) : AscLot v n ∧ v.length ≤ 11 ∧ ∀ k ∈ v, k < n := by
  obtain ⟨a, b, c⟩ := lots_in n v h
  exact ⟨⟨c, a⟩, by omega, a⟩
theorem nat_least : ∀ {l : List Nat}, l ≠ [] → ∃ m, m ∈ l ∧ ∀ x ∈ l, m ≤ x
  | [a], _ => ⟨a, List.mem_singleton.mpr rfl, fun x hx => by rw [List.mem_singleton.mp hx]; exact Nat.le_refl _⟩
  | a :: b :: l, _ => by
    obtain ⟨m, h1, h2⟩ := nat_least (l := b :: l) (List.cons_ne_nil _ _)
    by_cases q : a ≤ m
    · exact ⟨a, List.mem_cons_self, fun x hx => (List.mem_cons.mp hx).elim (fun e => by rw [e]; exact Nat.le_refl _) fun z => Nat.le_trans q (h2 x z)⟩
    · exact ⟨m, List.mem_cons_of_mem _ h1, fun x hx => (List.mem_cons.mp hx).elim (fun e => by omega) fun z => h2 x z⟩
def g_blocks (C : Addr) : GC := fun ds μ R => ∃ (p : List Nat) (ts : List Str), ds = [dWeb C p ts] ∧ OkWeb p ts ∧ p.Pairwise (· ≠ ·) ∧ ∀ f, BMarks p ts f → R (.tup ((blocksF ts.length f).map dLot)) μ
def N44 : List Str := ["web", "first", "ring", "joined", "lots", "start", "index", "mark", "lot"]
theorem sc44 : FnScope N44 ["web"] (defScope (top 44)) := ⟨rfl, rfl, rfl, by decide +kernel, rfl, by decide +kernel, by decide +kernel⟩
theorem ok_blocks (T : Tx K mg A) : FnOk P w K mg base CX0 8 A.blocks A.fd_blocks ["web"] (toSp K (g_blocks A.Web)) := by
  refine okD T.F_blocks sc44 (fun ds μ R h => ?_) ⟨_, fun cdv A0 outer s H E hr =>
    (dss_cons (ds_expr (de_call ((ok_check_web T).mono (by decide)) hr (by rfl) T.g_check_web T.F_check_web.kp T.b_check_web (da_cons (dv 0) da_nil)))
      (dss_cons (ds_set sc44.nd (i := 1) rfl (by first | exact Or.inl rfl | exact Or.inr rfl) (de_listRg (by rfl) (by rfl) T.z_list (by rfl) T.z_range (de_callB cr_len sim_len (by rfl) T.z_len boot_len (da_cons (de_fld T.k_Web T.n_ties (dv 0)) da_nil))))
      (dss_cons (ds_for PassesOwn.never rfl (di_both (de_call ((ok_rings T).mono (by decide)) hr (by rfl) T.g_rings T.F_rings.kp T.b_rings (da_cons (dv 0) da_nil))) (pg_name (i := 2) sc44.nd rfl (by first | exact Or.inl rfl | exact Or.inr rfl)) (sim_nm (i := 2))
      (dss_cons (ds_set sc44.nd (i := 3) rfl (by first | exact Or.inl rfl | exact Or.inr rfl) (de_lc (own := [("index", 6)]) (by rfl) sc44.nd (di_both (dv 2)) (blkOk_by (N := N44) (own := [("index", 6)]) (sc := defScope (top 44)) (by decide +kernel)) (fun _ _ _ _ _ => (pg_name (i := 6) sc44.nd rfl (by first | exact Or.inl rfl | exact Or.inr rfl))) (sim_nm (i := 6)) (fun _ _ _ _ _ => dts_nil) (fun _ _ _ _ _ => (de_ix ix_any sim_ix (dv 1) (dv 6) (fun _ _ => rfl)))))
      (dss_one (ds_set sc44.nd (i := 1) rfl (by first | exact Or.inl rfl | exact Or.inr rfl) (de_lc (own := [("mark", 7)]) (by rfl) sc44.nd (di_both (dv 1)) (blkOk_by (N := N44) (own := [("mark", 7)]) (sc := defScope (top 44)) (by decide +kernel)) (fun _ _ _ _ _ => (pg_name (i := 7) sc44.nd rfl (by first | exact Or.inl rfl | exact Or.inr rfl))) (sim_nm (i := 7)) (fun _ _ _ _ _ => dts_nil) (fun _ _ _ _ _ => (de_if (dt_cmp op_inA sim_in (dv 7) (dv 3) rfl) (de_callB (cr_minA (by rfl)) sim_min1 (by rfl) T.z_min boot_min (da_cons (dv 3) da_nil)) (dv 7))))))))
      (dss_cons (ds_setLc (i := 4) (own := [("start", 5)]) (by rfl) sc44.nd rfl rfl (sw_true rfl rfl rfl (by decide +kernel)) (di_range (by rfl) T.z_range (da_cons (de_callB cr_len sim_len (by rfl) T.z_len boot_len (da_cons (dv 1) da_nil)) da_nil)) (blkOk_by (N := N44) (own := [("start", 5)]) (sc := defScope (top 44)) (by decide +kernel)) (fun _ _ _ _ _ => (pg_name (i := 5) sc44.nd rfl (by first | exact Or.inl rfl | exact Or.inr rfl))) (sim_nm (i := 5)) (fun _ _ _ _ _ => dts_nil) (fun _ _ _ _ _ => (de_callTy call_tuple_of sim_tuple (by rfl) T.z_tuple boot_tuple (da_cons (de_lc (own := [("index", 6), ("mark", 7)]) (by rfl) sc44.nd (di_enumL (by rfl) T.z_enumerate (da_cons (dv 1) da_nil)) (blkOk_by (by kernel_rfl)) (fun _ _ _ _ _ => (pg_tup (n := 2) (by rfl) (pgs_cons (pg_name (i := 6) sc44.nd rfl (by first | exact Or.inl rfl | exact Or.inr rfl)) (pgs_cons (pg_name (i := 7) sc44.nd rfl (by first | exact Or.inl rfl | exact Or.inr rfl)) pgs_nil)))) (sim_tupT (n := 2) (sim_consT (sim_nm (i := 6)) (sim_consT (sim_nm (i := 7)) sim_nilT))) (fun _ _ _ _ _ => (dts_one (dt_cmp (op_eqA hr.units) sim_eq (dv 7) (dv 5) (nomark _)))) (fun _ _ _ _ _ => (dv 6))) da_nil))))
      (dss_one (ds_ret (de_callTy call_tuple_of sim_tuple (by rfl) T.z_tuple boot_tuple (da_cons (de_lc (own := [("lot", 8)]) (by rfl) sc44.nd (di_both (dv 4)) (blkOk_by (N := N44) (own := [("lot", 8)]) (sc := defScope (top 44)) (by decide +kernel)) (fun _ _ _ _ _ => (pg_name (i := 8) sc44.nd rfl (by first | exact Or.inl rfl | exact Or.inr rfl))) (sim_nm (i := 8)) (fun _ _ _ _ _ => (dts_one (dt_tru (dv 8)))) (fun _ _ _ _ _ => (dv 8))) da_nil)))))))), fun ds μ R h => ?_⟩
  · obtain ⟨p, ts, rfl, _⟩ := h
    rfl
  · obtain ⟨p, ts, rfl, ok, un, h⟩ := h
    have few := ok.many
    have he := ok.ends
    have lts : (ts.map D.str).length = ts.length := List.length_map _
    refine ⟨p, ts, rfl, ?_⟩
    refine ⟨rfl, _, rfl, ts.length, congrArg _ lts, by omega, ?_⟩
    refine ⟨p, ts, rfl, ok, fun rs hrs => ?_⟩
    have e0 : DL.upTo ts.length = nums ((List.range ts.length).map id) := by
      unfold nums
      rw [List.map_id]
      exact range_lot ts.length
    have rf := hrs.few few
    refine ⟨fun i δ' μ' => μ' = μ ∧ ∃ (f : Nat → Nat) (o2 o3 : Option D), BStep p ts (rs.take i) f ∧ δ' = [some (dWeb A.Web p ts), some (.lst (nums ((List.range ts.length).map f))), o2, o3, none, none, none, none, none], ⟨rfl, id, none, none, BStep.start, by rw [← e0]; rfl⟩, ?_, ?_⟩
    · rintro i x δ' μ' hx ⟨rfl, f, o2, o3, hf, rfl⟩
      rw [List.getElem?_map] at hx
      obtain ⟨r, hr, rfl⟩ : ∃ r, rs[i]? = some r ∧ dLot r = x := by
        cases e : rs[i]? with
        | none => rw [e] at hx; cases hx
        | some t => rw [e] at hx; exact ⟨t, rfl, Option.some.inj hx⟩
      obtain ⟨r1, r2⟩ := hrs.mem.mp (List.mem_of_getElem? hr)
      have rg : Ring p ts r := ⟨r1, r2⟩
      obtain ⟨_, r11, ri⟩ := lot_ok r1 few
      have rne : r ≠ [] := fun e => by
        have := ring_len r2
        rw [e] at this
        simp at this
      obtain ⟨m, hm, least⟩ := nat_least (l := r.map f) (by simpa using rne)
      have at_ : ∀ j, j < ts.length → (nums ((List.range ts.length).map f))[j]? = some (.int (f j : Nat)) := fun j hj => by
        unfold nums
        rw [List.getElem?_map, List.getElem?_map, List.getElem?_map, List.getElem?_range hj]
        rfl
      show LcB _ _ _ _ _ _ _ _
      refine lcb_map (onI f) ?_ ?_ ?_
      · rw [List.length_map, List.length_map, sizeLine_eq]
        omega
      · intro x hx μ2 Y _ hy
        obtain ⟨j, hj, rfl⟩ := items_lot hx
        exact atK_nat (at_ j (ri j hj)) hy
      have ej : ((r.map Int.ofNat).map D.int).map (onI f) = nums (r.map f) := by
        unfold nums
        rw [List.map_map, List.map_map, List.map_map, List.map_map]
        rfl
      rw [ej]
      show LcB _ _ _ _ _ _ _ _
      refine lcb_map (onI fun k => if k ∈ r.map f then m else k) ?_ ?_ ?_
      · unfold nums
        rw [List.length_map, List.length_map, List.length_map, List.length_range, sizeLine_eq]
        omega
      · intro x hx μ2 Y _ hy
        obtain ⟨k, hk, rfl⟩ := items_lot hx
        refine Or.inl ⟨(k : Int), (r.map f).map Int.ofNat, rfl, rfl, ?_⟩
        show if (decide ((k : Int) ∈ (r.map f).map Int.ofNat)) = true then _ else _
        rw [int_mem]
        refine if_case (c := decide (k ∈ r.map f)) (fun e => ?_) (fun e => ?_)
        · refine ⟨(r.map f).map Int.ofNat, rfl, by simpa using rne, fun m' h1 h2 => ?_⟩
          obtain ⟨a, ha, rfl⟩ := List.mem_map.mp h1
          have am : a = m := by
            have q1 := least a ha
            have q2 := h2 (Int.ofNat m) (List.mem_map.mpr ⟨m, hm, rfl⟩)
            have q2 : (a : Int) ≤ (m : Int) := q2
            omega
          have : onI (fun k => if k ∈ r.map f then m else k) (.int (k : Nat)) = .int (m : Nat) := by
            show D.int (((if ((k : Int).toNat) ∈ r.map f then m else ((k : Int).toNat) : Nat)) : Int) = _
            rw [Int.toNat_natCast, if_pos (of_decide_eq_true e)]
          rw [this] at hy
          rw [am]
          exact hy
        · have : onI (fun k => if k ∈ r.map f then m else k) (.int (k : Nat)) = .int (k : Nat) := by
            show D.int (((if ((k : Int).toNat) ∈ r.map f then m else ((k : Int).toNat) : Nat)) : Int) = _
            rw [Int.toNat_natCast, if_neg (of_decide_eq_false e)]
          rw [this] at hy
          exact hy
      have ef : (nums ((List.range ts.length).map f)).map (onI fun k => if k ∈ r.map f then m else k) = nums ((List.range ts.length).map (joinF f r m)) := by
        unfold nums
        rw [List.map_map, List.map_map, List.map_map, List.map_map, List.map_map]
        refine List.map_congr_left fun k _ => ?_
        show D.int _ = D.int _
        rfl
      rw [ef]
      refine ⟨rfl, joinF f r m, some (dLot r), some (.lst (nums (r.map f))), ?_, rfl⟩
      rw [take_succ_get hr]
      exact hf.step un he rg hm least
    · rintro δ' μ' ⟨rfl, f, o2, o3, hf, rfl⟩
      rw [List.length_map, List.take_length] at hf
      have bm := hf.done un he fun r hr => hrs.mem.mpr ⟨hr.lot, hr.ring⟩
      have h := h f bm
      have ln : ((nums ((List.range ts.length).map f)).length : Int) = (ts.length : Nat) := by
        unfold nums
        rw [List.length_map, List.length_map, List.length_map, List.length_range]
      refine ⟨⟨by rw [ln]; omega, by rw [ln]; omega⟩, ?_⟩
      have en : ((nums ((List.range ts.length).map f)).length : Int).toNat = ts.length := by rw [ln]; exact Int.toNat_natCast _
      rw [en]
      show LcB _ _ _ _ _ _ _ _
      refine lcb_map (fun d => match d with | .int s => dLot ((List.range ts.length).filter fun j => decide (f j = s.toNat)) | d => d) ?_ ?_ ?_
      · rw [List.length_map, List.length_range, sizeLine_eq]
        omega
      · intro x hx μ2 Y _ hy
        obtain ⟨s, hs, rfl⟩ := List.mem_map.mp hx
        show LcB _ _ _ _ _ _ _ _
        have enu : DL.numbered (nums ((List.range ts.length).map f)) = (List.range ts.length).map fun j => D.tup [.int (j : Nat), .int (f j : Nat)] := by
          unfold DL.numbered nums
          apply List.ext_getElem?
          intro j
          rw [List.getElem?_mapIdx, List.getElem?_map, List.getElem?_map, List.getElem?_map, List.getElem?_map]
          cases q : (List.range ts.length)[j]? with
          | none => rfl
          | some k =>
            have := (List.getElem?_eq_some_iff.mp q).2
            rw [List.getElem_range] at this
            subst this
            rfl
        rw [enu]
        refine lcb_pure (fun d => match d with | .tup [_, .int k] => decide (k = (s : Int)) | _ => false) head1 ?_ ?_ ?_
        · rw [List.length_map, List.length_range, sizeLine_eq]
          omega
        · intro x hx μ3 N Y _ hN hY
          obtain ⟨j, hj, rfl⟩ := List.mem_map.mp hx
          refine ⟨rfl, ?_⟩
          exact if_case (c := decide ((f j : Int) = (s : Int))) (fun e => hY e) (fun e => hN e)
        · have eh : ((((List.range ts.length).map fun j => D.tup [.int (j : Nat), .int (f j : Nat)]).filter (fun d => match d with | .tup [_, .int k] => decide (k = (s : Int)) | _ => false)).map head1) = (((List.range ts.length).filter fun j => decide (f j = s)).map Int.ofNat).map D.int := by
            rw [List.filter_map, List.map_map, List.map_map]
            have : (List.range ts.length).filter ((fun d => match d with | .tup [_, .int k] => decide (k = (s : Int)) | _ => false) ∘ fun j => D.tup [.int (j : Nat), .int (f j : Nat)]) = (List.range ts.length).filter fun j => decide (f j = s) := List.filter_congr fun j _ => decide_eq_decide.mpr ⟨fun h => by omega, fun h => by omega⟩
            rw [this]
            rfl
          rw [eh]
          exact hy
      have eb : ((List.range ts.length).map fun i => D.int (i : Nat)).map (fun d => match d with | .int s => dLot ((List.range ts.length).filter fun j => decide (f j = s.toNat)) | d => d) = ((List.range ts.length).map fun s => (List.range ts.length).filter fun j => decide (f j = s)).map dLot := by
        rw [List.map_map, List.map_map]
        rfl
      rw [eb]
      show LcB _ _ _ _ _ _ _ _
      refine lcb_pure (fun d => match d with | .tup ds => !ds.isEmpty | _ => false) id ?_ ?_ ?_
      · rw [List.length_map, List.length_map, List.length_range, sizeLine_eq]
        omega
      · intro x hx μ2 N Y _ hN hY
        obtain ⟨b, hb, rfl⟩ := List.mem_map.mp hx
        exact if_case (c := !((b.map Int.ofNat).map D.int).isEmpty) (fun e => hY e) (fun e => hN e)
      have el : ((((List.range ts.length).map fun s => (List.range ts.length).filter fun j => decide (f j = s)).map dLot).filter (fun d => match d with | .tup ds => !ds.isEmpty | _ => false)).map id = (blocksF ts.length f).map dLot := by
        rw [List.map_id, List.filter_map]
        unfold blocksF
        refine congrArg _ (List.filter_congr fun b _ => ?_)
        show (!((b.map Int.ofNat).map D.int).isEmpty) = _
        cases b <;> rfl
      rw [el]
      exact h
end
end K10
set_option Elab.async false
set_option linter.all false
set_option maxRecDepth 100000
namespace K10
open PySem PySem.Spec PyProof.Rows L2 DL
section
variable {P : Program} {w : World} {K : PySem.W.Frag} {mg : Str → Option Value} {base : Heap} {A : Ad}
/-! ### letters, orders, pages: the program's side -/
/-- letters, each once -/
def OkLetters (q : List Nat) : Prop := q.Nodup ∧ q.length ≤ 8 ∧ ∀ c ∈ q, 97 ≤ c ∧ c ≤ 104
theorem strict_ofM {l : List Nat} (h : l.Pairwise (· ≤ ·)) (n : l.Nodup) : l.Pairwise (· < ·) := (List.Pairwise.and h n).imp fun q => Nat.lt_of_le_of_ne q.1 q.2
theorem lay_tie {p : List Nat} (op : OkPlaces p) {ts : List Str} (ot : OkT p ts) (n : Nat) : LayL (ts.map D.str) (ts.map PyData.str) n := layL_map fun y hy => by
  refine lay_str ?_ n
  obtain ⟨a, b, rfl, ha, hb, _⟩ := ot.ties y hy
  show (#[a, b] : Array Nat).all (· < 0x110000) = true
  rw [Array.all_eq_true']
  intro c hc
  have hc : c = a ∨ c = b := by simpa using hc
  have h1 := op.sign a ha
  have h2 := op.sign b hb
  exact decide_eq_true (by omega)
theorem tup_sameE {ds : List D} {ps : List PyData} {n : Nat} {μ : Mu} {R : KD} (h : LayL ds ps n) (hn : n + 1 ≤ 64) (q : R (.bl true) μ) : gEq (.tup ds) (.tup ds) μ R := (lay_tup h).same (k := id) hn q
def NQ : List Str := ["self", "other"]
theorem scQ : FnScope NQ ["self", "other"] (defScope (inClass (top 21) 5)) := ⟨rfl, rfl, rfl, by decide +kernel, rfl, by decide +kernel, by decide +kernel⟩
def g_Web_eq (C : Addr) : GC := fun ds μ R => ∃ (p : List Nat) (ts : List Str), ds = [dWeb C p ts, dWeb C p ts] ∧ OkPlaces p ∧ OkT p ts ∧ R (.bl true) μ
theorem ok_Web_eq (T : Tx K mg A) : FnOk P w K mg base CX0 1 A.Web_eq A.fd_Web_eq ["self", "other"] (toSp K (g_Web_eq A.Web)) := by
  refine okD T.F_Web_eq scQ (fun ds μ R h => ?_) ⟨_, fun cdv A0 outer s H E hr =>
    (dss_one (ds_ret (de_and (de_isc T.i_Web (by rfl) T.z_isinstance (by rfl) T.g_Web (dv 1)) (de_and (de_cmp (op_eqA hr.units) sim_eq (de_fld T.k_Web T.n_places (dv 0)) (de_fld T.k_Web T.n_places (dv 1)) (nomark _)) (de_one (de_cmp (op_eqA hr.units) sim_eq (de_fld T.k_Web T.n_ties (dv 0)) (de_fld T.k_Web T.n_ties (dv 1)) (nomark _))))))), fun ds μ R h => ?_⟩
  · obtain ⟨p, ts, rfl, _⟩ := h
    rfl
  · obtain ⟨p, ts, rfl, op, ot, h⟩ := h
    refine ⟨rfl, ?_⟩
    refine ⟨rfl, _, rfl, ?_⟩
    refine ⟨rfl, _, rfl, ?_⟩
    refine if_case (c := decide (toS p = toS p)) (fun _ => ?_) (fun e => absurd rfl (of_decide_eq_false e))
    refine ⟨rfl, _, rfl, ?_⟩
    refine ⟨rfl, _, rfl, ?_⟩
    exact tup_sameE (lay_tie op ot 1) (by decide) h
def NX : List Str := ["self"]
theorem scX : FnScope NX ["self"] (defScope (inClass (top 21) 2)) := ⟨rfl, rfl, rfl, by decide +kernel, rfl, by decide +kernel, by decide +kernel⟩
theorem join_page (f : List Nat) (us : List Str) : Txt.join (" " : Str) (toS f :: us) = pgS f us := by
  have key : ∀ (us : List Str) (x : Str), (Str.join (" " : Str) (x :: us)).cps.toList = x.cps.toList ++ us.flatMap fun y => 32 :: y.cps.toList := fun us => by
    induction us with
    | nil =>
      intro x
      rw [List.flatMap_nil, List.append_nil]
      rfl
    | cons y us ih =>
      intro x
      rw [PyProof.Rows.join_cons_cons, List.flatMap_cons]
      show ((x.cps ++ (" " : Str).cps) ++ (Str.join (" " : Str) (y :: us)).cps).toList = _
      rw [Array.toList_append, Array.toList_append, ih, show (" " : Str).cps.toList = [32] by decide +kernel, List.append_assoc]
      rfl
  unfold Txt.join
  rw [StrLaws.glued_eq_join]
  refine str_same ?_
  rw [key, toS_list]
  exact (toS_list _).symm
def g_Web_text (C : Addr) : GC := fun ds μ R => ∃ (p : List Nat) (ts : List Str), ds = [dWeb C p ts] ∧ OkPlaces p ∧ OkT p ts ∧ ts.length ≤ 11 ∧ R (.str (pgS p ts)) μ
def g_are_lettersN : GC := fun ds μ R => ∃ q : List Nat, ds = [.str (toS q)] ∧ OkLetters q ∧ R (.bl true) μ
def g_check_letters (C : Addr) : GC := fun ds μ R => ∃ (p q : List Nat) (ts : List Str), ds = [dWeb C p ts, .str (toS q)] ∧ OkLetters q ∧ q.length = p.length ∧ R .non μ
def g_with_letters (C : Addr) : GC := fun ds μ R => ∃ (p q m : List Nat) (ts : List Str), ds = [dWeb C p ts, .str (toS q)] ∧ OkPlaces p ∧ OkT p ts ∧ ts.length ≤ 11 ∧ OkLetters q ∧ q.length = p.length ∧ m.Perm q ∧ m.Pairwise (· ≤ ·) ∧ R (dWeb C m (ts.map (nameT p q))) μ
theorem kvS_put (f : Nat → D) : ∀ (l : List Nat) (c : Nat), c ∉ l → DL.putD (l.map fun c => ((Sum.inr (sg c) : Key), f c)) (Sum.inr (sg c)) (f c) = (l ++ [c]).map fun c => ((Sum.inr (sg c) : Key), f c) := fun l c n => by
  unfold DL.putD
  have : ((l.map fun c => ((Sum.inr (sg c) : Key), f c)).any fun p => decide (p.1 = Sum.inr (sg c))) = false := by
    rw [Bool.eq_false_iff]
    intro h
    obtain ⟨x, h1, h2⟩ := List.any_eq_true.mp h
    obtain ⟨a, ha, rfl⟩ := List.mem_map.mp h1
    have : sg a = sg c := Sum.inr.inj (of_decide_eq_true h2)
    exact n (sg_inj this ▸ ha)
  rw [this, if_neg Bool.false_ne_true, List.map_append]
  rfl
theorem kvS_val (f : Nat → D) : ∀ (l : List Nat) (c : Nat), c ∈ l → DL.valD (l.map fun c => ((Sum.inr (sg c) : Key), f c)) (Sum.inr (sg c)) = some (f c)
  | a :: l, c, h => by
    unfold DL.valD
    show (List.find? _ ((Sum.inr (sg a), f a) :: l.map fun c => ((Sum.inr (sg c) : Key), f c))).map (·.2) = _
    rw [List.find?_cons]
    by_cases e : a = c
    · subst e
      simp
    · have ne : ¬ ((Sum.inr (sg a) : Key) = Sum.inr (sg c)) := fun z => e (sg_inj (Sum.inr.inj z))
      simp only [ne, decide_false]
      have := kvS_val f l c ((List.mem_cons.mp h).resolve_left fun z => e z.symm)
      unfold DL.valD at this
      exact this
def g_renamed (C : Addr) : GC := g_with_letters C
def CntD (kv : List (Key × D)) (ts : List Str) : Prop := ∀ z : Str, (DL.valD kv (Sum.inr z)).getD (.int 0) = .int ((ts.count z : Nat) : Int)
def g_all_orders : GC := fun ds μ R => ∃ s : List Nat, ds = [.str (toS s)] ∧ s.length ≤ 4 ∧ R (.lst ((ordN s s.length).map fun w => .str (toS w))) μ
def g_counts_of_ties (C : Addr) : GC := fun ds μ R => ∃ (p : List Nat) (ts : List Str), ds = [dWeb C p ts] ∧ ts.length ≤ 11 ∧ ∀ (a : Addr) (kv : List (Key × D)), μ a = none → CntD kv ts → R (.adr a) (put μ a (.dct kv))
def g_goes_on : GC := fun ds μ R => ∃ (p : List Nat) (ts : List Str) (a b : Addr) (kv kw : List (Key × D)) (v : List Nat) (c : Nat), ds = [.adr a, .adr b, .str (toS p), .str (toS (v ++ [c]))] ∧ μ a = some (.dct kv) ∧ μ b = some (.dct kw) ∧ CntD kv ts ∧ CntD kw ts ∧
  v.length < p.length ∧ p.length ≤ 4 ∧ R (.bl (goesB p ts v c)) μ
def g_renamings (C : Addr) : GC := fun ds μ R => ∃ (p : List Nat) (ts : List Str), ds = [dWeb C p ts, dWeb C p ts] ∧ OkPlaces p ∧ OkT p ts ∧ ts.length ≤ 11 ∧ p.length ≤ 4 ∧ R (.lst ((rowsP p ts p.length).map fun w => .str (toS w))) μ
def g_plain_text (C : Addr) : GC := fun ds μ R => ∃ (p : List Nat) (ts : List Str), ds = [dWeb C p ts] ∧ OkPlaces p ∧ OkT p ts ∧ ts.length ≤ 11 ∧ p.length ≤ 4 ∧ ∀ t, IsPlain p ts t → R (.str t) μ
def g_count_renamings (C : Addr) : GC := fun ds μ R => ∃ (p : List Nat) (ts : List Str), ds = [dWeb C p ts] ∧ OkPlaces p ∧ OkT p ts ∧ ts.length ≤ 11 ∧ p.length ≤ 4 ∧ R (.int (ownN p ts : Nat)) μ
theorem valD_cons (a : Key) (b : D) (kvs : List (Key × D)) (k : Key) : DL.valD ((a, b) :: kvs) k = if a = k then some b else DL.valD kvs k := by
  unfold DL.valD
  rw [List.find?_cons]
  by_cases e : a = k
  · simp [e]
  · simp [e]
theorem valD_map_ne {k k' : Key} {d : D} (ne : k' ≠ k) : ∀ kvs : List (Key × D), DL.valD (kvs.map fun kv => if kv.1 = k then (kv.1, d) else kv) k' = DL.valD kvs k'
  | [] => rfl
  | (a, b) :: kvs => by
    have ih := valD_map_ne (d := d) ne kvs
    show DL.valD ((if a = k then (a, d) else (a, b)) :: kvs.map fun kv => if kv.1 = k then (kv.1, d) else kv) k' = _
    by_cases e : a = k
    · rw [if_pos e, valD_cons, valD_cons, if_neg (fun z => ne (z.symm.trans e)), if_neg (fun z => ne (z.symm.trans e)), ih]
    · rw [if_neg e, valD_cons, valD_cons, ih]
theorem valD_map_eq {k : Key} {d : D} : ∀ kvs : List (Key × D), (kvs.any fun kv => decide (kv.1 = k)) = true → DL.valD (kvs.map fun kv => if kv.1 = k then (kv.1, d) else kv) k = some d
  | [], h => by cases h
  | (a, b) :: kvs, h => by
    show DL.valD ((if a = k then (a, d) else (a, b)) :: kvs.map fun kv => if kv.1 = k then (kv.1, d) else kv) k = _
    by_cases e : a = k
    · rw [if_pos e, valD_cons, if_pos e]
    · rw [if_neg e, valD_cons, if_neg e]
      refine valD_map_eq kvs ?_
      rw [List.any_cons] at h
      rcases Bool.or_eq_true_iff.mp h with q | q
      · exact absurd (of_decide_eq_true q) e
      · exact q
theorem valD_snoc {k k' : Key} {d : D} : ∀ kvs : List (Key × D), (kvs.any fun kv => decide (kv.1 = k)) = false → DL.valD (kvs ++ [(k, d)]) k' = if k' = k then some d else DL.valD kvs k'
  | [], _ => by
    show DL.valD [(k, d)] k' = _
    rw [valD_cons]
    by_cases e : k' = k
    · rw [if_pos e, if_pos e.symm]
    · rw [if_neg e, if_neg (fun z => e z.symm)]
  | (a, b) :: kvs, h => by
    rw [List.any_cons] at h
    obtain ⟨q1, q2⟩ := Bool.or_eq_false_iff.mp h
    have ih := valD_snoc (k' := k') (d := d) kvs q2
    show DL.valD ((a, b) :: (kvs ++ [(k, d)])) k' = _
    rw [valD_cons, valD_cons, ih]
    by_cases e : a = k'
    · rw [if_pos e, if_pos e, if_neg (fun z => of_decide_eq_false q1 (e.trans z))]
    · rw [if_neg e, if_neg e]
theorem valD_put (kvs : List (Key × D)) (k k' : Key) (d : D) : DL.valD (putD kvs k d) k' = if k' = k then some d else DL.valD kvs k' := by
  unfold putD
  by_cases e : (kvs.any fun kv => decide (kv.1 = k)) = true
  · rw [if_pos e]
    by_cases ek : k' = k
    · rw [if_pos ek, ek]
      exact valD_map_eq kvs e
    · rw [if_neg ek]
      exact valD_map_ne ek kvs
  · rw [if_neg e]
    exact valD_snoc kvs (Bool.eq_false_iff.mpr e)
theorem putD_len (kvs : List (Key × D)) (k : Key) (d : D) : (putD kvs k d).length ≤ kvs.length + 1 := by
  unfold putD
  split
  · rw [List.length_map]
    omega
  · rw [List.length_append]
    exact Nat.le_refl _
def txF : D → D → D
  | .str u, .str v => .str (u ++ v)
  | a, _ => a
def unT : D → List Nat
  | .str u => u.cps.toList
  | _ => []
theorem unT_toS (w : List Nat) : unT (.str (toS w)) = w := toS_list w
theorem signs_toS (s : List Nat) : DL.signs (toS s) = s.map fun c => D.str (sg c) := by
  unfold DL.signs
  rw [toS_list]
  rfl
theorem toS_app (a b : List Nat) : toS a ++ toS b = toS (a ++ b) := by
  show (⟨a.toArray ++ b.toArray⟩ : Str) = ⟨(a ++ b).toArray⟩
  congr 1
  simp
theorem toS_one (w : List Nat) (c : Nat) : toS w ++ sg c = toS (w ++ [c]) := toS_app w [c]
theorem sort_nat : ∀ l : List Nat, ∃ m : List Nat, m.Perm l ∧ m.Pairwise (· ≤ ·) := fun l =>
  ⟨l.mergeSort (fun a b => decide (a ≤ b)), List.mergeSort_perm l _, (List.pairwise_mergeSort (le := fun a b : Nat => decide (a ≤ b)) (fun a b c h1 h2 => decide_eq_true (Nat.le_trans (of_decide_eq_true h1) (of_decide_eq_true h2))) (fun a b => by
    rcases Nat.le_total a b with q | q
    · rw [decide_eq_true q]; rfl
    · rw [decide_eq_true q, Bool.or_true]) l).imp fun h => of_decide_eq_true h⟩
theorem cut_last (v : List Nat) (c : Nat) : cutS (toS (v ++ [c])) none (some (-1)) = toS v := by
  unfold cutS
  have e : HT.sIx (toS (v ++ [c])).length (toS (v ++ [c])).length (some (-1)) = v.length := by
    rw [toS_size, List.length_append, List.length_singleton]
    unfold HT.sIx
    simp
    omega
  rw [e, HT.sIx_none, toS_list, List.drop_zero, Nat.sub_zero, List.take_left]
  rfl
theorem at_last (v : List Nat) (c : Nat) : L2.atI (v ++ [c]) (-1) = some c := by
  unfold L2.atI L2.ixN
  rw [if_neg (by decide), if_pos (by rw [List.length_append, List.length_singleton]; omega)]
  have e : ((-1 : Int) + ((v ++ [c]).length : Nat)).toNat = v.length := by rw [List.length_append, List.length_singleton]; omega
  rw [e]
  show (v ++ [c])[v.length]? = some c
  rw [List.getElem?_append_right (Nat.le_refl _), Nat.sub_self]
  rfl
theorem sum_twos : ∀ us : List Str, (∀ y ∈ us, y.cps.size = 2) → (us.map (·.length)).sum = 2 * us.length
  | [], _ => rfl
  | y :: us, h => by
    have := h y List.mem_cons_self
    have hy : y.length = 2 := this
    rw [List.map_cons, List.sum_cons, hy, sum_twos us fun z hz => h z (List.mem_cons_of_mem _ hz), List.length_cons]
    omega
theorem okT_two {p : List Nat} {ts : List Str} (ot : OkT p ts) : ∀ y ∈ ts, y.cps.size = 2 := fun y hy => by
  obtain ⟨a, b, rfl, _⟩ := ot.ties y hy
  rfl
theorem page_fits {p : List Nat} {us : List Str} (p8 : p.length ≤ 8) (few : us.length ≤ 11) (two : ∀ y ∈ us, y.cps.size = 2) : ((toS p :: us).map (·.length)).sum + (toS p :: us).length * (" " : Str).length ≤ 16777216 := by
  rw [List.map_cons, List.sum_cons, sum_twos us two, toS_size, List.length_cons, show (" " : Str).length = 1 by decide +kernel]
  omega
theorem first_cut {p : List Nat} (h : p.length ≤ 8) : cutS ("abcdefgh" : Str) none (some ((p.length : Nat) : Int)) = toS (firstP p) := by
  have e : ("abcdefgh" : Str) = toS ((List.range 8).map (· + 97)) := by decide +kernel
  rw [e, cutSL (by show p.length ≤ 8; exact h)]
  unfold firstP
  rw [← List.map_take, List.take_range, Nat.min_eq_left h]
theorem alike_strs : ∀ us vs : List Str, PySem.W.alikeAll (us.map PyData.str) (vs.map PyData.str) = true
  | [], _ => by rw [List.map_nil, PySem.W.alikeAll]
  | _ :: _, [] => by rw [List.map_nil, List.map_cons, PySem.W.alikeAll]
  | x :: xs, y :: ys => by
    rw [List.map_cons, List.map_cons, PySem.W.alikeAll, alike_strs xs ys]
    rfl
theorem ok_Web_text (T : Tx K mg A) : FnOk P w K mg base CX0 1 A.Web_text A.fd_Web_text ["self"] (toSp K (g_Web_text A.Web)) := by
  refine okD T.F_Web_text scX (fun ds μ R h => ?_) ⟨_, fun cdv A0 outer s H E hr =>
    (dss_one (ds_ret (de_bm PySem.F.plainAttrs_str PySem.F.slot_str_join PySem.F.type_str_join mt_join sim_join ok_str de_str (da_cons (de_lst (da_cons (de_fld T.k_Web T.n_places (dv 0)) (da_star (de_fld T.k_Web T.n_ties (dv 0))))) da_nil)))), fun ds μ R h => ?_⟩
  · obtain ⟨p, ts, rfl, _⟩ := h
    rfl
  · obtain ⟨p, ts, rfl, op, ot, few, h⟩ := h
    refine ⟨True.intro, ?_⟩
    refine ⟨rfl, _, rfl, ?_⟩
    refine ⟨rfl, _, rfl, ?_⟩
    refine ⟨by show (ts.map D.str).length + 1 ≤ sizeLine; rw [List.length_map, sizeLine_eq]; omega, ?_⟩
    refine ⟨toS p :: ts, rfl, page_fits (by have := op.few; omega) few (okT_two ot), ?_⟩
    rw [join_page]
    exact h
theorem ok_are_lettersN (T : Tx K mg A) : FnOk P w K mg base CX0 1 A.are_letters A.fd_are_letters ["value"] (toSp K (g_are_lettersN)) := by
  refine okD T.F_are_letters sc12 (fun ds μ R h => ?_) ⟨_, fun cdv A0 outer s H E hr =>
    (dss_cons (ds_if (dw_or (dt_not (dt_val (de_isi (T := "str") (by rfl) T.z_isinstance (by rfl) T.z_str (by decide +kernel) (dv 0)))) (dw_or1 (dt_cmp op_gtA sim_ord (de_callB cr_len sim_len (by rfl) T.z_len boot_len (da_cons (dv 0) da_nil)) (de_callB cr_len sim_len (by rfl) T.z_len boot_len (da_cons (de_globS (by rfl) T.c_LETTERS.choose_spec) da_nil)) (nomark _)))).dt (dss_one (ds_ret de_bl)) dss_nil)
      (dss_one (ds_ret (de_callB (cr_all (by rfl)) sim_all (by rfl) T.z_all boot_all (da_cons (de_lc (own := [("letter", 1)]) (by rfl) sc12.nd (di_str (dv 0)) (blkOk_by (N := N12) (own := [("letter", 1)]) (sc := defScope (top 12)) (by decide +kernel)) (fun _ _ _ _ _ => (pg_name (i := 1) sc12.nd rfl (by first | exact Or.inl rfl | exact Or.inr rfl))) (sim_nm (i := 1)) (fun _ _ _ _ _ => dts_nil) (fun _ _ _ _ _ => (de_and (de_cmp op_inA sim_in (dv 1) (de_globS (by rfl) T.c_LETTERS.choose_spec) rfl) (de_one (de_cmp (op_eqA hr.units) sim_eq (de_bm PySem.F.plainAttrs_str PySem.F.slot_str_count PySem.F.type_str_count mt_count sim_count ok_str (dv 0) (da_cons (dv 1) da_nil)) de_int (nomark _)))))) da_nil))))), fun ds μ R h => ?_⟩
  · obtain ⟨q, rfl, _⟩ := h
    rfl
  · obtain ⟨p, rfl, ⟨nd, few, sg_⟩, h⟩ := h
    refine ⟨_, true, rfl, by decide +kernel, ?_⟩
    have hz : (toS p).length = p.length := by
      show p.toArray.size = p.length
      rw [List.size_toArray]
    have hn : ¬ decide ((("abcdefgh" : Str).length : Int) < ((toS p).length : Int)) = true := by
      rw [decide_eq_true_eq, hz]
      have : ("abcdefgh" : Str).length = 8 := by decide +kernel
      rw [this]
      omega
    refine ⟨by rw [hz, sizeLine_eq]; omega, by decide +kernel, ?_⟩
    show (if decide ((("abcdefgh" : Str).length : Int) < ((toS p).length : Int)) = true then _ else _)
    rw [if_neg hn]
    show LcB _ _ _ _ _ _ _ _
    refine lcb_map (fun _ => .bl true) ?_ ?_ ?_
    · unfold DL.signs
      rw [List.length_map, toS_list, sizeLine_eq]
      omega
    · intro x hx μ2 Y _ hy
      unfold DL.signs at hx
      obtain ⟨c, hc, rfl⟩ := List.mem_map.mp hx
      rw [toS_list] at hc
      have hs := sg_ c hc
      refine ⟨c, rfl, ?_⟩
      have e1 : decide (c ∈ ("abcdefgh" : Str).cps.toList) = true := by
        have e : ("abcdefgh" : Str).cps.toList = [97, 98, 99, 100, 101, 102, 103, 104] := by decide +kernel
        rw [e, decide_eq_true_eq]
        simp
        omega
      show (if id (decide (c ∈ ("abcdefgh" : Str).cps.toList)) = true then _ else _)
      rw [if_pos (show id (decide (c ∈ ("abcdefgh" : Str).cps.toList)) = true from e1)]
      refine ⟨True.intro, ?_⟩
      show Y (.bl (id (decide (Txt.count (toS p) ⟨#[c]⟩ = 1)))) μ2
      rw [count_once hc nd]
      exact hy
    · unfold DL.signs
      rw [List.map_map]
      refine ⟨List.replicate p.length true, ?_, ?_⟩
      · rw [toS_list, List.map_replicate]
        exact List.map_const'
      · show R (.bl ((List.replicate p.length true).all id)) μ
        have : (List.replicate p.length true).all id = true := by
          rw [List.all_eq_true]
          intro b hb
          rw [List.eq_of_mem_replicate hb]
          rfl
        rw [this]
        exact h
def N19 : List Str := ["web", "letters"]
theorem sc19 : FnScope N19 ["web", "letters"] (defScope (top 19)) := ⟨rfl, rfl, rfl, by decide +kernel, rfl, by decide +kernel, by decide +kernel⟩
theorem ok_check_letters (T : Tx K mg A) : FnOk P w K mg base CX0 3 A.check_letters A.fd_check_letters ["web", "letters"] (toSp K (g_check_letters A.Web)) := by
  refine okD T.F_check_letters sc19 (fun ds μ R h => ?_) ⟨_, fun cdv A0 outer s H E hr =>
    (dss_one (ds_if (dw_or (dt_not (dt_val (de_call ((ok_are_lettersN T).mono (by decide)) hr (by rfl) T.g_are_letters T.F_are_letters.kp T.b_are_letters (da_cons (dv 1) da_nil)))) (dw_or1 (dt_cmp (op_neA hr.units) sim_ne (de_callB cr_len sim_len (by rfl) T.z_len boot_len (da_cons (dv 1) da_nil)) (de_callB cr_len sim_len (by rfl) T.z_len boot_len (da_cons (de_fld T.k_Web T.n_places (dv 0)) da_nil)) (nomark _)))).dt (dss_one ds_never) dss_nil)), fun ds μ R h => ?_⟩
  · obtain ⟨p, q, ts, rfl, _⟩ := h
    rfl
  · obtain ⟨p, q, ts, rfl, ol, lq, h⟩ := h
    refine ⟨q, rfl, ol, ?_⟩
    have e : (((toS q).length : Nat) : Int) = (((toS p).length : Nat) : Int) := by rw [toS_size, toS_size, lq]
    refine ⟨by rw [toS_size, sizeLine_eq]; have := ol.2.1; omega, ?_⟩
    refine ⟨rfl, _, rfl, ?_⟩
    refine ⟨by rw [toS_size, ← lq, sizeLine_eq]; have := ol.2.1; omega, ?_⟩
    refine if_case (c := !decide ((((toS q).length : Nat) : Int) = (((toS p).length : Nat) : Int))) (fun z => ?_) (fun _ => h)
    rw [decide_eq_true e] at z
    cases z
def N25 : List Str := ["web", "letters", "renaming", "ties", "place", "letter", "tie"]
theorem sc25 : FnScope N25 ["web", "letters"] (defScope (top 25)) := ⟨rfl, rfl, rfl, by decide +kernel, rfl, by decide +kernel, by decide +kernel⟩
theorem ok_with_letters (T : Tx K mg A) : FnOk P w K mg base CX0 6 A.with_letters A.fd_with_letters ["web", "letters"] (toSp K (g_with_letters A.Web)) := by
  refine okDF T.F_with_letters sc25 (fun ds μ R h => ?_) ⟨_, fun cdv A0 outer s H E hr =>
    (dss_cons (ds_set sc25.nd (i := 2) rfl (by first | exact Or.inl rfl | exact Or.inr rfl) (de_dc (own := [("place", 4), ("letter", 5)]) (by rfl) sc25.nd (di_zipG (by rfl) T.z_zip (da_cons (de_fld T.k_Web T.n_places (dv 0)) (da_cons (dv 1) da_nil))) (blkOk_by (N := N25) (own := [("place", 4), ("letter", 5)]) (sc := defScope (top 25)) (by decide +kernel)) (fun _ _ _ _ _ => (pg_tup (n := 2) (by rfl) (pgs_cons (pg_name (i := 4) sc25.nd rfl (by first | exact Or.inl rfl | exact Or.inr rfl)) (pgs_cons (pg_name (i := 5) sc25.nd rfl (by first | exact Or.inl rfl | exact Or.inr rfl)) pgs_nil)))) (sim_tupT (n := 2) (sim_consT (sim_nm (i := 4)) (sim_consT (sim_nm (i := 5)) sim_nilT))) (fun _ _ _ _ _ => dts_nil) (fun _ _ _ _ _ => (dv 4)) (fun _ _ _ _ _ => (dv 5))))
      (dss_cons (ds_setLc (i := 3) (own := [("tie", 6)]) (by rfl) sc25.nd rfl rfl (sw_true rfl rfl rfl (by decide +kernel)) (di_both (de_fld T.k_Web T.n_ties (dv 0))) (blkOk_by (N := N25) (own := [("tie", 6)]) (sc := defScope (top 25)) (by decide +kernel)) (fun _ _ _ _ _ => (pg_name (i := 6) sc25.nd rfl (by first | exact Or.inl rfl | exact Or.inr rfl))) (sim_nm (i := 6)) (fun _ _ _ _ _ => dts_nil) (fun _ _ _ _ _ => (de_call ((ok_in_order T).mono (by decide)) hr (by rfl) T.g_in_order T.F_in_order.kp T.b_in_order (da_cons (de_op op_plus sim_plus (de_dget (hu_of hr) (dv 2) (de_ix ix_any sim_ix (dv 6) de_int (fun _ _ => rfl)) (fun _ _ => rfl)) (de_dget (hu_of hr) (dv 2) (de_ix ix_any sim_ix (dv 6) de_int (fun _ _ => rfl)) (fun _ _ => rfl))) da_nil))))
      (dss_one (ds_ret (de_make T.m_Web ((ok_Web_init T).mono (by decide)) hr (by rfl) T.g_Web T.b_Web_init (da_cons (de_call ((ok_in_order T).mono (by decide)) hr (by rfl) T.g_in_order T.F_in_order.kp T.b_in_order (da_cons (dv 1) da_nil)) (da_cons (de_callTy call_tuple_of sim_tuple (by rfl) T.z_tuple boot_tuple (da_cons (dv 3) da_nil)) da_nil))))))), fun ds μ R h => ?_⟩
  · obtain ⟨p, q, m, ts, rfl, _⟩ := h
    rfl
  · obtain ⟨p, q, m, ts, rfl, op, ot, few, ol, lq, pm, asc, h⟩ := h
    have un : p.Pairwise (· ≠ ·) := op.asc.imp fun h => Nat.ne_of_lt h
    have p7 := op.few
    refine ⟨rfl, _, rfl, ?_⟩
    refine ⟨_, _, DL.signs (toS p), DL.signs (toS q), rfl, rfl, rfl, ?_⟩
    refine DcB.mk (fun a na => ?_)
    have ln : (DL.pairsL (DL.signs (toS p)) (DL.signs (toS q))).length = p.length := by
      unfold DL.pairsL DL.signs
      rw [List.length_zipWith, List.length_map, List.length_map, toS_list, toS_list]
      omega
    refine ⟨fun i μ' => μ' = put μ a (.dct ((p.take i).map fun c => ((Sum.inr (sg c) : Key), D.str (sg (forL p q c))))), rfl, ?_, ?_⟩
    · rintro i x μ' hx rfl
      have hi : i < p.length := by rw [← ln]; exact (List.getElem?_eq_some_iff.mp hx).1
      have hx2 : x = .tup [.str (sg p[i]), .str (sg (forL p q p[i]))] := by
        unfold DL.pairsL DL.signs at hx
        rw [toS_list, toS_list, List.getElem?_zipWith, List.getElem?_map, List.getElem?_map, List.getElem?_eq_getElem hi, List.getElem?_eq_getElem (show i < q.length by omega)] at hx
        have e : forL p q p[i] = q[i] := by
          unfold forL
          rw [idx_get un hi, List.getD_eq_getElem?_getD, List.getElem?_eq_getElem (show i < q.length by omega)]
          rfl
        rw [e]
        exact (Option.some.inj hx).symm
      subst hx2
      refine ⟨rfl, ?_⟩
      refine ⟨_, _, key_sg _, put_same, by rw [List.length_map, List.length_take, sizeLine_eq]; omega, ?_⟩
      show put _ _ _ = _
      rw [put_put]
      have nin : p[i] ∉ p.take i := fun z => by
        obtain ⟨j, hj, e⟩ := List.mem_take_iff_getElem.mp z
        have := List.pairwise_iff_getElem.mp un j i (by omega) hi (by omega)
        exact this e
      have := kvS_put (fun c => D.str (sg (forL p q c))) (p.take i) p[i] nin
      rw [List.take_succ, List.getElem?_eq_getElem hi]
      exact congrArg (fun z => put μ a (.dct z)) this
    · rintro μ' rfl
      rw [ln, List.take_length]
      have two : ∀ a b : Nat, (yTie a b).length ≤ sizeLine := fun a b => by show 2 ≤ sizeLine; decide
      refine ⟨rfl, _, rfl, ?_⟩
      show LcB _ _ _ _ _ _ _ _
      have fl : ∀ c ∈ p, forL p q c ∈ q := fun c hc => by
        unfold forL
        have := List.idxOf_lt_length_of_mem hc
        rw [List.getD_eq_getElem?_getD, List.getElem?_eq_getElem (by omega)]
        exact List.getElem_mem _
      refine lcb_map (fun d => match d with | .str y => .str (nameT p q y) | d => d) (by rw [List.length_map, sizeLine_eq]; omega) ?_ ?_
      · intro d hd ν Y kp hY
        obtain ⟨y, hy, rfl⟩ := List.mem_map.mp hd
        obtain ⟨c, e, rfl, hc, he, _⟩ := ot.ties y hy
        have hY : Y (.str (nameT p q (yTie c e))) ν := hY
        have hat := kp a _ put_same
        refine ⟨two c e, ?_⟩
        refine ⟨_, _, _, hat, key_sg _, kvS_val (fun c => D.str (sg (forL p q c))) p c hc, ?_⟩
        refine ⟨two c e, ?_⟩
        refine ⟨_, _, _, hat, key_sg _, kvS_val (fun c => D.str (sg (forL p q c))) p e he, ?_⟩
        refine ⟨by show 1 + 1 ≤ sizeLine; decide, ?_⟩
        refine ⟨[forL p q c, forL p q e], rfl, by show 2 ≤ 1000; decide, fun ms h1 h2 => ?_⟩
        rw [two_put h1 h2]
        exact hY
      have em : (ts.map D.str).map (fun d => match d with | .str y => D.str (nameT p q y) | d => d) = (ts.map (nameT p q)).map D.str := by
        rw [List.map_map, List.map_map]
        rfl
      rw [em]
      refine ⟨q, rfl, by have := ol.2.1; omega, fun ms h1 h2 => ?_⟩
      have e1 : ms = m := (h1.trans pm.symm).eq_of_pairwise (fun _ _ _ _ x y => Nat.le_antisymm x y) h2 asc
      rw [e1]
      have om : OkPlaces m := ⟨by rw [pm.length_eq]; have := op.one; omega, by rw [pm.length_eq]; omega, strict_ofM asc (pm.nodup_iff.mpr ol.1), fun c hc => ol.2.2 c (pm.subset hc)⟩
      have otm : OkT m (ts.map (nameT p q)) := ⟨fun y hy => by
        obtain ⟨w, hw, rfl⟩ := List.mem_map.mp hy
        obtain ⟨c, e, rfl, hc, he, _⟩ := ot.ties w hw
        have f1 := pm.symm.subset (fl c hc)
        have f2 := pm.symm.subset (fl e he)
        refine ⟨min (forL p q c) (forL p q e), max (forL p q c) (forL p q e), rfl, ?_, ?_, by omega⟩
        · rcases Nat.le_total (forL p q c) (forL p q e) with z | z
          · rw [Nat.min_eq_left z]; exact f1
          · rw [Nat.min_eq_right z]; exact f2
        · rcases Nat.le_total (forL p q c) (forL p q e) with z | z
          · rw [Nat.max_eq_right z]; exact f2
          · rw [Nat.max_eq_left z]; exact f1⟩
      refine fun b nb => ?_
      refine ⟨b, m, _, rfl, om, otm.ok (by rw [List.length_map]; omega), put_same, ?_⟩
      refine ⟨_, put_same, ?_⟩
      rw [put_put, del_put nb]
      exact ⟨_, μ, .less fun c o hc => by rw [put_ne (fun z => by rw [z, na] at hc; cases hc)]; exact hc, h⟩
def N26 : List Str := ["web", "letters"]
theorem sc26 : FnScope N26 ["web", "letters"] (defScope (top 26)) := ⟨rfl, rfl, rfl, by decide +kernel, rfl, by decide +kernel, by decide +kernel⟩
theorem ok_renamed (T : Tx K mg A) : FnOk P w K mg base CX0 7 A.renamed A.fd_renamed ["web", "letters"] (toSp K (g_renamed A.Web)) := by
  refine okD T.F_renamed sc26 (fun ds μ R h => ?_) ⟨_, fun cdv A0 outer s H E hr =>
    (dss_cons (ds_expr (de_call ((ok_check_web T).mono (by decide)) hr (by rfl) T.g_check_web T.F_check_web.kp T.b_check_web (da_cons (dv 0) da_nil)))
      (dss_cons (ds_expr (de_call ((ok_check_letters T).mono (by decide)) hr (by rfl) T.g_check_letters T.F_check_letters.kp T.b_check_letters (da_cons (dv 0) (da_cons (dv 1) da_nil))))
      (dss_one (ds_ret (de_call ((ok_with_letters T).mono (by decide)) hr (by rfl) T.g_with_letters T.F_with_letters.kp T.b_with_letters (da_cons (dv 0) (da_cons (dv 1) da_nil))))))), fun ds μ R h => ?_⟩
  · obtain ⟨p, q, m, ts, rfl, _⟩ := h
    rfl
  · obtain ⟨p, q, m, ts, rfl, op, ot, few, ol, lq, pm, asc, h⟩ := h
    refine ⟨p, ts, rfl, ?_⟩
    refine ⟨p, q, ts, rfl, ol, lq, ?_⟩
    exact ⟨p, q, m, ts, rfl, op, ot, few, ol, lq, pm, asc, h⟩
def N28 : List Str := ["letters", "orders", "_", "order", "letter"]
theorem sc28 : FnScope N28 ["letters"] (defScope (top 28)) := ⟨rfl, rfl, rfl, by decide +kernel, rfl, by decide +kernel, by decide +kernel⟩
theorem ok_all_orders (T : Tx K mg A) : FnOk P w K mg base CX0 1 A.all_orders A.fd_all_orders ["letters"] (toSp K (g_all_orders)) := by
  refine okD T.F_all_orders sc28 (fun ds μ R h => ?_) ⟨_, fun cdv A0 outer s H E hr =>
    (dss_cons (ds_set sc28.nd (i := 1) rfl (by first | exact Or.inl rfl | exact Or.inr rfl) (de_lst (da_cons de_str da_nil)))
      (dss_cons (ds_for PassesOwn.never rfl (di_str (dv 0)) (pg_name (i := 2) sc28.nd rfl (by first | exact Or.inl rfl | exact Or.inr rfl)) (sim_nm (i := 2))
      (dss_one (ds_setLc2 (i := 1) (own := [("order", 3), ("letter", 4)]) (vs1 := [4]) (by rfl) sc28.nd rfl rfl (sw_true rfl rfl rfl (by decide +kernel)) (di_both (dv 1)) (blkOk_by (N := N28) (own := [("order", 3), ("letter", 4)]) (sc := defScope (top 28)) (by decide +kernel)) (fun _ _ _ _ _ => (pg_name (i := 3) sc28.nd rfl (by first | exact Or.inl rfl | exact Or.inr rfl))) (sim_nm (i := 3)) (fun _ _ _ _ _ => dts_nil) (fun _ _ _ _ _ => (di_str (dv 0))) (fun _ _ _ _ _ => (pg_name (i := 4) sc28.nd rfl (by first | exact Or.inl rfl | exact Or.inr rfl))) (sim_nm (i := 4)) (fun _ _ _ _ _ => (dts_one (dt_cmp op_notInA sim_notIn (dv 4) (dv 3) rfl))) (fun _ _ _ _ _ => (de_op op_plus sim_plus (dv 3) (dv 4))))))
      (dss_one (ds_ret (dv 1))))), fun ds μ R h => ?_⟩
  · obtain ⟨s, rfl, _⟩ := h
    rfl
  · obtain ⟨s, rfl, few, h⟩ := h
    have e0 : ("" : Str) = toS [] := by decide +kernel
    refine ⟨by show 1 ≤ sizeLine; decide, ?_⟩
    have many : ∀ i, i ≤ 4 → (ordN s i).length ≤ 256 := fun i hi => Nat.le_trans (ord_few few i) (Nat.le_trans (Nat.pow_le_pow_right (by decide) hi) (by decide))
    refine ⟨fun i δ' μ' => μ' = μ ∧ i ≤ s.length ∧ ∃ o2 : Option D, δ' = [some (.str (toS s)), some (.lst ((ordN s i).map fun w => .str (toS w))), o2, none, none], ⟨rfl, Nat.zero_le _, none, by rw [e0]; rfl⟩, ?_, ?_⟩
    · rintro i it δ' μ' hi ⟨rfl, _, o2, rfl⟩
      have hlt : i < s.length := by
        have := (List.getElem?_eq_some_iff.mp hi).1
        unfold DL.signs at this
        rw [List.length_map, toS_list] at this
        exact this
      have fw := many i (by omega)
      show LcB2 _ _ _ _ _ _ _ _ _ _ _ _
      refine lcb2_pure (fun _ => DL.signs (toS s)) (fun x y => decide ((unT y).headD 0 ∉ unT x)) txF ?_ ?_ ?_
      · rw [signs_toS, List.map_const', List.length_map, List.sum_replicate_nat, List.length_map, sizeLine_eq]
        have : (ordN s i).length * s.length ≤ 256 * 4 := Nat.mul_le_mul fw few
        omega
      · intro d hd ν Kk _ hk
        obtain ⟨w, hw, rfl⟩ := List.mem_map.mp hd
        have lw := (ord_mem.mp hw).1
        refine hk _ fun x1 hx1 μ4 N Y _ hN hY => ?_
        rw [signs_toS] at hx1
        obtain ⟨c, hc, rfl⟩ := List.mem_map.mp hx1
        refine ⟨c, rfl, ?_⟩
        have e1 : (not (decide (c ∈ (toS w).cps.toList))) = decide ((unT (.str (sg c))).headD 0 ∉ unT (.str (toS w))) := by
          rw [unT_toS, toS_list, ← decide_not]
          rfl
        refine if_case (c := not (decide (c ∈ (toS w).cps.toList))) (fun z => ?_) (fun z => hN (e1 ▸ z))
        refine ⟨?_, hY (e1 ▸ z)⟩
        show (toS w).length + 1 ≤ sizeLine
        rw [toS_size, sizeLine_eq]
        omega
      have e : (((ordN s i).map fun w => D.str (toS w)).flatMap fun x => ((DL.signs (toS s)).filter fun y => decide ((unT y).headD 0 ∉ unT x)).map (txF x)) = (ordN s (i + 1)).map fun w => D.str (toS w) := by
        show _ = (ordStep s (ordN s i)).map _
        unfold ordStep
        rw [List.flatMap_map, List.map_flatMap]
        congr 1
        funext w
        rw [signs_toS, List.filter_map, List.map_map, List.map_map]
        have c : ((fun y => decide ((unT y).headD 0 ∉ unT (D.str (toS w)))) ∘ fun c => D.str (sg c)) = fun c => decide (c ∉ w) := by
          funext c
          show decide ((unT (D.str (sg c))).headD 0 ∉ unT (D.str (toS w))) = _
          rw [unT_toS]
          rfl
        rw [c]
        refine List.map_congr_left fun c _ => ?_
        show D.str (toS w ++ sg c) = _
        rw [toS_one]
        rfl
      rw [e]
      exact ⟨rfl, hlt, _, rfl⟩
    · rintro δ' μ' ⟨rfl, _, o2, rfl⟩
      have ln : (DL.signs (toS s)).length = s.length := by rw [signs_toS, List.length_map]
      rw [ln]
      exact h
def N29 : List Str := ["web", "counts", "tie"]
theorem sc29 : FnScope N29 ["web"] (defScope (top 29)) := ⟨rfl, rfl, rfl, by decide +kernel, rfl, by decide +kernel, by decide +kernel⟩
theorem ok_counts_of_ties (T : Tx K mg A) : FnOk P w K mg base CX0 1 A.counts_of_ties A.fd_counts_of_ties ["web"] (toSp K (g_counts_of_ties A.Web)) := by
  refine okDF T.F_counts_of_ties sc29 (fun ds μ R h => ?_) ⟨_, fun cdv A0 outer s H E hr =>
    (dss_cons (ds_set sc29.nd (i := 1) rfl (by first | exact Or.inl rfl | exact Or.inr rfl) de_dnew)
      (dss_cons (ds_for PassesOwn.never rfl (di_both (de_fld T.k_Web T.n_ties (dv 0))) (pg_name (i := 2) sc29.nd rfl (by first | exact Or.inl rfl | exact Or.inr rfl)) (sim_nm (i := 2))
      (dss_one (ds_asgH (de_op op_plus sim_plus (de_dget2 (hu_of hr) (dv 1) (dv 2) de_int ⟨by rfl, by rfl, by rfl, by rfl⟩) de_int) (pg_subDD (hu_of hr) (dv 1) (dv 2)) simH_subDD)))
      (dss_one (ds_ret (dv 1))))), fun ds μ R h => ?_⟩
  · obtain ⟨p, ts, rfl, _⟩ := h
    rfl
  · obtain ⟨p, ts, rfl, few, h⟩ := h
    refine fun a na => ?_
    refine ⟨rfl, _, rfl, ?_⟩
    refine ⟨fun i δ' μ' => ∃ kv, CntD kv (ts.take i) ∧ kv.length ≤ i ∧ μ' = put μ a (.dct kv) ∧ ∃ o2 : Option D, δ' = [some (dWeb A.Web p ts), some (.adr a), o2], ⟨[], fun z => rfl, Nat.le_refl _, rfl, none, rfl⟩, ?_, ?_⟩
    · rintro i it δ' μ' hi ⟨kv, hk, lk, rfl, o2, rfl⟩
      have hlt : i < ts.length := by
        have := (List.getElem?_eq_some_iff.mp hi).1
        rw [List.length_map] at this
        exact this
      have eit : it = .str ts[i] := by
        rw [List.getElem?_map, List.getElem?_eq_getElem hlt] at hi
        exact (Option.some.inj hi).symm
      subst eit
      refine ⟨⟨a, kv, rfl, put_same⟩, ?_⟩
      refine ⟨a, kv, Sum.inr ts[i], rfl, put_same, rfl, ?_⟩
      rw [hk ts[i]]
      refine ⟨kv, Sum.inr ts[i], put_same, rfl, by rw [sizeLine_eq]; omega, ?_⟩
      refine ⟨DL.putD kv (Sum.inr ts[i]) (.int (((ts.take i).count ts[i] : Nat) + 1 : Int)), fun z => ?_, ?_, ?_, _, rfl⟩
      · rw [valD_put, List.take_succ, List.getElem?_eq_getElem hlt, List.count_append]
        by_cases e : z = ts[i]
        · subst e
          rw [if_pos rfl]
          show D.int _ = D.int _
          congr 1
          simp
        · rw [if_neg fun q => e (Sum.inr.inj q), hk z]
          congr 1
          have : List.count z [ts[i]] = 0 := List.count_eq_zero.mpr fun q => e (List.mem_singleton.mp q)
          show ((_ : Nat) : Int) = ((_ + List.count z [ts[i]] : Nat) : Int)
          rw [this, Nat.add_zero]
      · have := putD_len kv (Sum.inr ts[i]) (.int (((ts.take i).count ts[i] : Nat) + 1 : Int))
        omega
      · rw [put_put]
    · rintro δ' μ' ⟨kv, hk, lk, rfl, o2, rfl⟩
      rw [List.length_map, List.take_length] at hk
      exact freed_now (h a kv na hk)
def N30 : List Str := ["counts", "other_counts", "places", "letters", "last", "place", "other_place", "letter", "many"]
theorem sc30 : FnScope N30 ["counts", "other_counts", "places", "letters"] (defScope (top 30)) := ⟨rfl, rfl, rfl, by decide +kernel, rfl, by decide +kernel, by decide +kernel⟩
theorem ok_goes_on (T : Tx K mg A) : FnOk P w K mg base CX0 3 A.goes_on A.fd_goes_on ["counts", "other_counts", "places", "letters"] (toSp K (g_goes_on)) := by
  refine okD T.F_goes_on sc30 (fun ds μ R h => ?_) ⟨_, fun cdv A0 outer s H E hr =>
    (dss_cons (ds_set sc30.nd (i := 4) rfl (by first | exact Or.inl rfl | exact Or.inr rfl) (de_ix ix_any sim_ix (dv 3) (de_un un_neg sim_neg de_int) (fun _ _ => rfl)))
      (dss_cons (ds_if (dt_cmp op_inA sim_in (dv 4) (de_slice (dv 3) dp_none (dp_some (de_un un_neg sim_neg de_int))) rfl) (dss_one (ds_ret de_bl)) dss_nil)
      (dss_cons (ds_set sc30.nd (i := 5) rfl (by first | exact Or.inl rfl | exact Or.inr rfl) (de_ix ix_any sim_ix (dv 2) (de_op op_sub sim_minus (de_callB cr_len sim_len (by rfl) T.z_len boot_len (da_cons (dv 3) da_nil)) de_int) (fun _ _ => rfl)))
      (dss_cons (ds_for PassesOwn.never rfl (di_zipG (by rfl) T.z_zip (da_cons (dv 2) (da_cons (dv 3) da_nil))) (pg_tup (n := 2) (by rfl) (pgs_cons (pg_name (i := 6) sc30.nd rfl (by first | exact Or.inl rfl | exact Or.inr rfl)) (pgs_cons (pg_name (i := 7) sc30.nd rfl (by first | exact Or.inl rfl | exact Or.inr rfl)) pgs_nil))) (sim_tupT (n := 2) (sim_consT (sim_nm (i := 6)) (sim_consT (sim_nm (i := 7)) sim_nilT)))
      (dss_cons (ds_set sc30.nd (i := 8) rfl (by first | exact Or.inl rfl | exact Or.inr rfl) (de_dget2 (hu_of hr) (dv 0) (de_call ((ok_in_order T).mono (by decide)) hr (by rfl) T.g_in_order T.F_in_order.kp T.b_in_order (da_cons (de_op op_plus sim_plus (dv 6) (dv 5)) da_nil)) de_int ⟨by rfl, by rfl, by rfl, by rfl⟩))
      (dss_one (ds_if (dt_cmp (op_neA hr.units) sim_ne (dv 8) (de_dget2 (hu_of hr) (dv 1) (de_call ((ok_in_order T).mono (by decide)) hr (by rfl) T.g_in_order T.F_in_order.kp T.b_in_order (da_cons (de_op op_plus sim_plus (dv 7) (dv 4)) da_nil)) de_int ⟨by rfl, by rfl, by rfl, by rfl⟩) (nomark _)) (dss_one (ds_ret de_bl)) dss_nil))))
      (dss_one (ds_ret de_bl)))))), fun ds μ R h => ?_⟩
  · obtain ⟨p, ts, a, b, kv, kw, v, c, rfl, _⟩ := h
    rfl
  · obtain ⟨p, ts, a, b, kv, kw, v, c, rfl, ha, hb, ka, kb, lv, p4, h⟩ := h
    have ll : (toS (v ++ [c])).length = v.length + 1 := by rw [toS_size, List.length_append]; rfl
    have fits_ : (toS (v ++ [c])).length ≤ sizeLine := by rw [ll, sizeLine_eq]; omega
    refine ⟨fits_, ?_⟩
    rw [toS_list, show L2.atI (v ++ [c]) (-(1 : Int)) = some c from at_last v c]
    refine ⟨fits_, ?_⟩
    rw [show cutS (toS (v ++ [c])) none (some (-(1 : Int))) = toS v from cut_last v c]
    refine ⟨c, rfl, ?_⟩
    unfold goesB at h
    rw [toS_list]
    refine if_case (c := decide (c ∈ v)) (fun z => ?_) (fun z => ?_)
    · rw [z] at h
      exact h
    rw [z] at h
    have h : R (.bl ((List.range (v.length + 1)).all fun i => decide (cT ts (p.getD i 0) (p.getD v.length 0) = cT ts ((v ++ [c]).getD i 0) c))) μ := h
    refine ⟨fits_, ?_⟩
    have e1 : (((toS (v ++ [c])).length : Nat) : Int) - 1 = ((v.length : Nat) : Int) := by rw [ll]; omega
    dsimp only [gC, gMinus, gII0]
    rw [e1]
    have gp : ∀ {i}, i < p.length → p[i]? = some (p.getD i 0) := fun {i} hi => by rw [List.getD_eq_getElem?_getD, List.getElem?_eq_getElem hi]; rfl
    have gw : ∀ {i}, i < v.length + 1 → (v ++ [c])[i]? = some ((v ++ [c]).getD i 0) := fun {i} hi => by rw [List.getD_eq_getElem?_getD, List.getElem?_eq_getElem (by rw [List.length_append]; exact hi)]; rfl
    refine ix_str (by omega) (gp lv) ?_
    refine ⟨_, _, DL.signs (toS p), DL.signs (toS (v ++ [c])), rfl, rfl, rfl, ?_⟩
    have ln : (DL.pairsL (DL.signs (toS p)) (DL.signs (toS (v ++ [c])))).length = v.length + 1 := by
      unfold DL.pairsL
      rw [List.length_zipWith, signs_toS, signs_toS, List.length_map, List.length_map, List.length_append, List.length_singleton]
      omega
    refine ⟨fun i δ' μ' => μ' = μ ∧ (∀ j, j < i → cT ts (p.getD j 0) (p.getD v.length 0) = cT ts ((v ++ [c]).getD j 0) c) ∧ ∃ o6 o7 o8 : Option D, δ' = [some (.adr a), some (.adr b), some (.str (toS p)), some (.str (toS (v ++ [c]))), some (.str (sg c)), some (.str (sg (p.getD v.length 0))), o6, o7, o8], ⟨rfl, fun j hj => absurd hj (Nat.not_lt_zero _), none, none, none, rfl⟩, ?_, ?_⟩
    · rintro i it δ' μ' hi ⟨rfl, hall, o6, o7, o8, rfl⟩
      have hlt : i < v.length + 1 := by rw [← ln]; exact (List.getElem?_eq_some_iff.mp hi).1
      have eit : it = .tup [.str (sg (p.getD i 0)), .str (sg ((v ++ [c]).getD i 0))] := by
        unfold DL.pairsL at hi
        rw [signs_toS, signs_toS, List.getElem?_zipWith, List.getElem?_map, List.getElem?_map, gp (by omega), gw hlt] at hi
        exact (Option.some.inj hi).symm
      subst eit
      refine ⟨rfl, ?_⟩
      refine ⟨⟨a, kv, rfl, ha⟩, ?_⟩
      refine ⟨by show 1 + 1 ≤ sizeLine; decide, ?_⟩
      refine ⟨[p.getD i 0, p.getD v.length 0], rfl, by show 2 ≤ 1000; decide, fun ms h1 h2 => ?_⟩
      rw [two_put h1 h2]
      refine ⟨a, kv, Sum.inr (tie2 (p.getD i 0) (p.getD v.length 0)), rfl, ha, rfl, ?_⟩
      rw [ka]
      refine ⟨⟨b, kw, rfl, hb⟩, ?_⟩
      refine ⟨by show 1 + 1 ≤ sizeLine; decide, ?_⟩
      refine ⟨[(v ++ [c]).getD i 0, c], rfl, by show 2 ≤ 1000; decide, fun ms h1 h2 => ?_⟩
      rw [two_put h1 h2]
      refine ⟨b, kw, Sum.inr (tie2 ((v ++ [c]).getD i 0) c), rfl, hb, rfl, ?_⟩
      rw [kb]
      have e2 : (!decide (((cT ts (p.getD i 0) (p.getD v.length 0) : Nat) : Int) = ((cT ts ((v ++ [c]).getD i 0) c : Nat) : Int))) = !decide (cT ts (p.getD i 0) (p.getD v.length 0) = cT ts ((v ++ [c]).getD i 0) c) := by
        congr 1
        exact decide_eq_decide.mpr ⟨fun z => by omega, fun z => by omega⟩
      refine if_case (c := !decide (((cT ts (p.getD i 0) (p.getD v.length 0) : Nat) : Int) = ((cT ts ((v ++ [c]).getD i 0) c : Nat) : Int))) (fun z => ?_) (fun z => ?_)
      · rw [e2, Bool.not_eq_true', decide_eq_false_iff_not] at z
        have : ((List.range (v.length + 1)).all fun i => decide (cT ts (p.getD i 0) (p.getD v.length 0) = cT ts ((v ++ [c]).getD i 0) c)) = false := by
          rw [Bool.eq_false_iff]
          intro q
          exact z (of_decide_eq_true (List.all_eq_true.mp q i (List.mem_range.mpr hlt)))
        rw [this] at h
        exact h
      · rw [e2] at z
        have z := of_decide_eq_true (by simpa using z : decide (cT ts (p.getD i 0) (p.getD v.length 0) = cT ts ((v ++ [c]).getD i 0) c) = true)
        refine ⟨rfl, fun j hj => ?_, _, _, _, rfl⟩
        by_cases q : j = i
        · rw [q]; exact z
        · exact hall j (by omega)
    · rintro δ' μ' ⟨rfl, hall, o6, o7, o8, rfl⟩
      rw [ln] at hall
      have : ((List.range (v.length + 1)).all fun i => decide (cT ts (p.getD i 0) (p.getD v.length 0) = cT ts ((v ++ [c]).getD i 0) c)) = true := by
        rw [List.all_eq_true]
        exact fun i hi => decide_eq_true (hall i (List.mem_range.mp hi))
      rw [this] at h
      exact h
def N31 : List Str := ["web", "other_web", "counts", "other_counts", "rows", "_", "longer", "row", "letter"]
theorem sc31 : FnScope N31 ["web", "other_web"] (defScope (top 31)) := ⟨rfl, rfl, rfl, by decide +kernel, rfl, by decide +kernel, by decide +kernel⟩
theorem ok_renamings (T : Tx K mg A) : FnOk P w K mg base CX0 5 A.renamings A.fd_renamings ["web", "other_web"] (toSp K (g_renamings A.Web)) := by
  refine okDF T.F_renamings sc31 (fun ds μ R h => ?_) ⟨_, fun cdv A0 outer s H E hr =>
    (dss_cons (ds_if (dw_or (dt_cmp (op_neA hr.units) sim_ne (de_callB cr_len sim_len (by rfl) T.z_len boot_len (da_cons (de_fld T.k_Web T.n_places (dv 0)) da_nil)) (de_callB cr_len sim_len (by rfl) T.z_len boot_len (da_cons (de_fld T.k_Web T.n_places (dv 1)) da_nil)) (nomark _)) (dw_or1 (dt_cmp (op_neA hr.units) sim_ne (de_callB cr_len sim_len (by rfl) T.z_len boot_len (da_cons (de_fld T.k_Web T.n_ties (dv 0)) da_nil)) (de_callB cr_len sim_len (by rfl) T.z_len boot_len (da_cons (de_fld T.k_Web T.n_ties (dv 1)) da_nil)) (nomark _)))).dt (dss_one (ds_ret (de_lst da_nil))) dss_nil)
      (dss_cons (ds_set sc31.nd (i := 2) rfl (by first | exact Or.inl rfl | exact Or.inr rfl) (de_call ((ok_counts_of_ties T).mono (by decide)) hr (by rfl) T.g_counts_of_ties T.F_counts_of_ties.kp T.b_counts_of_ties (da_cons (dv 0) da_nil)))
      (dss_cons (ds_set sc31.nd (i := 3) rfl (by first | exact Or.inl rfl | exact Or.inr rfl) (de_call ((ok_counts_of_ties T).mono (by decide)) hr (by rfl) T.g_counts_of_ties T.F_counts_of_ties.kp T.b_counts_of_ties (da_cons (dv 1) da_nil)))
      (dss_cons (ds_set sc31.nd (i := 4) rfl (by first | exact Or.inl rfl | exact Or.inr rfl) (de_lst (da_cons de_str da_nil)))
      (dss_cons (ds_for PassesOwn.never rfl (di_str (de_fld T.k_Web T.n_places (dv 0))) (pg_name (i := 5) sc31.nd rfl (by first | exact Or.inl rfl | exact Or.inr rfl)) (sim_nm (i := 5))
      (dss_cons (ds_setLc2 (i := 6) (own := [("row", 7), ("letter", 8)]) (vs1 := [8]) (by rfl) sc31.nd rfl rfl (sw_true rfl rfl rfl (by decide +kernel)) (di_both (dv 4)) (blkOk_by (N := N31) (own := [("row", 7), ("letter", 8)]) (sc := defScope (top 31)) (by decide +kernel)) (fun _ _ _ _ _ => (pg_name (i := 7) sc31.nd rfl (by first | exact Or.inl rfl | exact Or.inr rfl))) (sim_nm (i := 7)) (fun _ _ _ _ _ => dts_nil) (fun _ _ _ _ _ => (di_str (de_fld T.k_Web T.n_places (dv 1)))) (fun _ _ _ _ _ => (pg_name (i := 8) sc31.nd rfl (by first | exact Or.inl rfl | exact Or.inr rfl))) (sim_nm (i := 8)) (fun _ _ _ _ _ => dts_nil) (fun _ _ _ _ _ => (de_op op_plus sim_plus (dv 7) (dv 8))))
      (dss_one (ds_setLc (i := 4) (own := [("row", 7)]) (by rfl) sc31.nd rfl rfl (sw_true rfl rfl rfl (by decide +kernel)) (di_both (dv 6)) (blkOk_by (N := N31) (own := [("row", 7)]) (sc := defScope (top 31)) (by decide +kernel)) (fun _ _ _ _ _ => (pg_name (i := 7) sc31.nd rfl (by first | exact Or.inl rfl | exact Or.inr rfl))) (sim_nm (i := 7)) (fun _ _ _ _ _ => (dts_one (dt_val (de_call ((ok_goes_on T).mono (by decide)) hr (by rfl) T.g_goes_on T.F_goes_on.kp T.b_goes_on (da_cons (dv 2) (da_cons (dv 3) (da_cons (de_fld T.k_Web T.n_places (dv 0)) (da_cons (dv 7) da_nil)))))))) (fun _ _ _ _ _ => (dv 7))))))
      (dss_one (ds_ret (dv 4)))))))), fun ds μ R h => ?_⟩
  · obtain ⟨p, ts, rfl, _⟩ := h
    rfl
  · obtain ⟨p, ts, rfl, op, ot, few, p4, h⟩ := h
    have same : ∀ x : Int, (!decide (x = x)) = false := fun x => by simp
    have un : p.Nodup := op.asc.imp fun h => Nat.ne_of_lt h
    have zp : (toS p).length ≤ sizeLine := by rw [toS_size, sizeLine_eq]; omega
    have zt : (ts.map D.str).length ≤ sizeLine := by rw [List.length_map, sizeLine_eq]; omega
    have e0 : ("" : Str) = toS [] := by decide +kernel
    refine ⟨rfl, _, rfl, ?_⟩
    refine ⟨zp, ?_⟩
    refine ⟨rfl, _, rfl, ?_⟩
    refine ⟨zp, ?_⟩
    refine if_case (c := !decide (((toS p).length : Int) = ((toS p).length : Int))) (fun z => by rw [same] at z; cases z) (fun _ => ?_)
    refine ⟨rfl, _, rfl, ?_⟩
    refine ⟨rfl, _, rfl, ?_⟩
    refine if_case (c := !decide (((ts.map D.str).length : Int) = ((ts.map D.str).length : Int))) (fun z => by rw [same] at z; cases z) (fun _ => ?_)
    refine ⟨p, ts, rfl, few, fun a kv na hk => ?_⟩
    refine ⟨p, ts, rfl, few, fun b kw nb hw => ?_⟩
    have ne : b ≠ a := fun e => by rw [e, put_same] at nb; cases nb
    have nb' : μ b = none := by rw [put_ne ne] at nb; exact nb
    obtain ⟨M, hM⟩ : ∃ M, M = put (put μ a (.dct kv)) b (.dct kw) := ⟨_, rfl⟩
    rw [← hM]
    have ha : M a = some (.dct kv) := by rw [hM, put_ne (fun e => ne e.symm), put_same]
    have hb : M b = some (.dct kw) := by rw [hM, put_same]
    refine ⟨by show 1 ≤ sizeLine; decide, ?_⟩
    refine ⟨rfl, _, rfl, ?_⟩
    have many : ∀ i, i ≤ 4 → (rowsP p ts i).length ≤ 256 := fun i hi => Nat.le_trans (rowsP_few p4 i) (Nat.le_trans (Nat.pow_le_pow_right (by decide) hi) (by decide))
    refine ⟨fun i δ' μ' => μ' = M ∧ i ≤ p.length ∧ ∃ o5 o6 : Option D, δ' = [some (dWeb A.Web p ts), some (dWeb A.Web p ts), some (.adr a), some (.adr b), some (.lst ((rowsP p ts i).map fun w => .str (toS w))), o5, o6, none, none], ⟨rfl, Nat.zero_le _, none, none, by rw [e0]; rfl⟩, ?_, ?_⟩
    · rintro i it δ' μ' hi ⟨rfl, _, o5, o6, rfl⟩
      have hlt : i < p.length := by
        have := (List.getElem?_eq_some_iff.mp hi).1
        rw [signs_toS, List.length_map] at this
        exact this
      have fw := many i (by omega)
      show LcB2 _ _ _ _ _ _ _ _ _ _ _ _
      refine lcb2_pure (fun _ => DL.signs (toS p)) (fun _ _ => true) txF ?_ ?_ ?_
      · rw [signs_toS, List.map_const', List.length_map, List.sum_replicate_nat, List.length_map, sizeLine_eq]
        have : (rowsP p ts i).length * p.length ≤ 256 * 4 := Nat.mul_le_mul fw p4
        omega
      · intro d hd ν Kk _ hk
        obtain ⟨w, hw, rfl⟩ := List.mem_map.mp hd
        have lw := (rowsP_mem.mp hw).1
        refine ⟨rfl, _, rfl, ?_⟩
        refine hk _ fun x1 hx1 μ4 N Y _ hN hY => ?_
        rw [signs_toS] at hx1
        obtain ⟨c, hc, rfl⟩ := List.mem_map.mp hx1
        refine ⟨?_, hY rfl⟩
        show (toS w).length + 1 ≤ sizeLine
        rw [toS_size, sizeLine_eq]
        omega
      have e : (((rowsP p ts i).map fun w => D.str (toS w)).flatMap fun x => ((DL.signs (toS p)).filter fun _ => true).map (txF x)) = (longP p (rowsP p ts i)).map fun w => D.str (toS w) := by
        unfold longP
        rw [List.filter_eq_self.mpr fun _ _ => rfl, List.flatMap_map, List.map_flatMap]
        congr 1
        funext w
        rw [signs_toS, List.map_map, List.map_map]
        refine List.map_congr_left fun c _ => ?_
        show D.str (toS w ++ sg c) = _
        rw [toS_one]
        rfl
      rw [e]
      have fl : (longP p (rowsP p ts i)).length ≤ 1024 := long_few p4 fw
      show LcB _ _ _ _ _ _ _ _
      refine lcb_pure (fun d => goesW p ts (unT d)) id (by rw [List.length_map, sizeLine_eq]; omega) ?_ ?_
      · intro d hd ν N Y kp hN hY
        obtain ⟨w, hwm, rfl⟩ := List.mem_map.mp hd
        unfold longP at hwm
        obtain ⟨v, hv, hx⟩ := List.mem_flatMap.mp hwm
        obtain ⟨c, _, rfl⟩ := List.mem_map.mp hx
        have lv := (rowsP_mem.mp hv).1
        rw [unT_toS, goesW_snoc] at hN hY
        have eg : some (v ++ [c]) = some (v ++ [c]) := rfl
        refine ⟨rfl, _, rfl, ?_⟩
        refine ⟨p, ts, a, b, kv, kw, v, c, rfl, kp a _ ha, kp b _ hb, hk, hw, by omega, p4, ?_⟩
        exact if_case (c := goesB p ts v c) (fun z => hY z) (fun z => hN z)
      · have e2 : ((longP p (rowsP p ts i)).map fun w => D.str (toS w)).filter (fun d => goesW p ts (unT d)) = (rowsP p ts (i + 1)).map fun w => D.str (toS w) := by
          rw [List.filter_map]
          have c : ((fun d => goesW p ts (unT d)) ∘ fun w => D.str (toS w)) = goesW p ts := by
            funext w
            show goesW p ts (unT (.str (toS w))) = _
            rw [unT_toS]
          rw [c]
          rfl
        rw [List.map_id, e2]
        exact ⟨rfl, hlt, _, _, rfl⟩
    · rintro δ' μ' ⟨rfl, _, o5, o6, rfl⟩
      have ln : (DL.signs (toS p)).length = p.length := by rw [signs_toS, List.length_map]
      rw [ln]
      exact ⟨_, μ, .less fun c o hc => by rw [hM, put_ne (fun z => by rw [z, nb'] at hc; cases hc), put_ne (fun z => by rw [z, na] at hc; cases hc)]; exact hc, h⟩
def N32 : List Str := ["web", "places", "first", "order"]
theorem sc32 : FnScope N32 ["web"] (defScope (top 32)) := ⟨rfl, rfl, rfl, by decide +kernel, rfl, by decide +kernel, by decide +kernel⟩
theorem ok_plain_text (T : Tx K mg A) : FnOk P w K mg base CX0 8 A.plain_text A.fd_plain_text ["web"] (toSp K (g_plain_text A.Web)) := by
  refine okD T.F_plain_text sc32 (fun ds μ R h => ?_) ⟨_, fun cdv A0 outer s H E hr =>
    (dss_cons (ds_expr (de_call ((ok_check_web T).mono (by decide)) hr (by rfl) T.g_check_web T.F_check_web.kp T.b_check_web (da_cons (dv 0) da_nil)))
      (dss_cons (ds_set sc32.nd (i := 1) rfl (by first | exact Or.inl rfl | exact Or.inr rfl) (de_slice (de_globS (by rfl) T.c_LETTERS.choose_spec) dp_none (dp_some (de_callB cr_len sim_len (by rfl) T.z_len boot_len (da_cons (de_fld T.k_Web T.n_places (dv 0)) da_nil)))))
      (dss_cons (ds_set sc32.nd (i := 2) rfl (by first | exact Or.inl rfl | exact Or.inr rfl) (de_callB (cr_minD (by rfl) hr.units) sim_minD (by rfl) T.z_min boot_min (da_cons (de_lc (own := [("order", 3)]) (by rfl) sc32.nd (di_both (de_call ((ok_all_orders T).mono (by decide)) hr (by rfl) T.g_all_orders T.F_all_orders.kp T.b_all_orders (da_cons (dv 1) da_nil))) (blkOk_by (N := N32) (own := [("order", 3)]) (sc := defScope (top 32)) (by decide +kernel)) (fun _ _ _ _ _ => (pg_name (i := 3) sc32.nd rfl (by first | exact Or.inl rfl | exact Or.inr rfl))) (sim_nm (i := 3)) (fun _ _ _ _ _ => dts_nil) (fun _ _ _ _ _ => (de_callB DL.cr_sortedST sim_sortedST (by rfl) T.z_sorted boot_sorted (da_cons (de_fld T.k_Web T.n_ties (de_call ((ok_with_letters T).mono (by decide)) hr (by rfl) T.g_with_letters T.F_with_letters.kp T.b_with_letters (da_cons (dv 0) (da_cons (dv 3) da_nil)))) da_nil)))) da_nil)))
      (dss_one (ds_ret (de_bm PySem.F.plainAttrs_str PySem.F.slot_str_join PySem.F.type_str_join mt_join sim_join ok_str de_str (da_cons (de_lst (da_cons (dv 1) (da_star (dv 2)))) da_nil))))))), fun ds μ R h => ?_⟩
  · obtain ⟨p, ts, rfl, _⟩ := h
    rfl
  · obtain ⟨p, ts, rfl, op, ot, few, p4, h⟩ := h
    refine ⟨p, ts, rfl, ?_⟩
    have zp : (toS p).length ≤ sizeLine := by rw [toS_size, sizeLine_eq]; omega
    have un : p.Nodup := op.asc.imp fun h => Nat.ne_of_lt h
    refine ⟨rfl, _, rfl, ?_⟩
    refine ⟨zp, ?_⟩
    refine ⟨by decide +kernel, ?_⟩
    rw [toS_size, first_cut (by omega)]
    have lf := first_len p
    refine ⟨firstP p, rfl, by omega, ?_⟩
    show LcB _ _ _ _ _ _ _ _
    have many : (ordN (firstP p) (firstP p).length).length ≤ 256 := Nat.le_trans (ord_few (by omega) _) (Nat.le_trans (Nat.pow_le_pow_right (by decide) (show (firstP p).length ≤ 4 by omega)) (by decide))
    refine lcb_map (fun d => .lst ((srt (ts.map (nameT p (unT d)))).map D.str)) (by rw [List.length_map, sizeLine_eq]; omega) ?_ ?_
    · intro d hd ν Y _ hY
      obtain ⟨q, hq, rfl⟩ := List.mem_map.mp hd
      have pq := (ord_perm (first_nodup p)).mp hq
      obtain ⟨m, pm, sm⟩ := sort_nat q
      have lq : q.length = p.length := by rw [pq.length_eq, lf]
      have olq : OkLetters q := ⟨pq.nodup_iff.mpr (first_nodup p), by omega, fun c hc => by
        have := pq.subset hc
        unfold firstP at this
        obtain ⟨i, hi, rfl⟩ := List.mem_map.mp this
        have := List.mem_range.mp hi
        omega⟩
      refine ⟨p, q, m, ts, rfl, op, ot, few, olq, lq, pm, sm, ?_⟩
      refine ⟨rfl, _, rfl, ?_⟩
      refine ⟨ts.map (nameT p q), rfl, fun ys h1 h2 => ?_⟩
      rw [unT_toS] at hY
      rw [srt_of h1 h2]
      exact hY
    have szl : ∀ q, (srt (ts.map (nameT p q))).length = ts.length := fun q => by rw [(srt_perm _).length_eq, List.length_map]
    have two : ∀ q, ∀ y ∈ srt (ts.map (nameT p q)), y.cps.size = 2 := fun q y hy => by
      obtain ⟨z, _, rfl⟩ := List.mem_map.mp ((srt_perm _).subset hy)
      rfl
    obtain ⟨O, hO⟩ : ∃ O, O = ordN (firstP p) (firstP p).length := ⟨_, rfl⟩
    rw [← hO]
    have memO : ∀ q, q ∈ O ↔ q.Perm (firstP p) := fun q => by rw [hO]; exact ord_perm (first_nodup p)
    have otq : ∀ q, q ∈ O → ∃ m : List Nat, OkPlaces m ∧ OkT m (srt (ts.map (nameT p q))) := fun q hq => by
      have pq := (memO q).mp hq
      have lq : q.length = p.length := by rw [pq.length_eq, lf]
      refine ⟨firstP p, ⟨by have := op.one; omega, by omega, ?_, fun c hc => ?_⟩, ⟨fun y hy => (name_okT lq pq.symm ot).ties y ((srt_perm _).subset hy)⟩⟩
      · unfold firstP
        rw [List.pairwise_map]
        exact List.pairwise_lt_range.imp fun h => by omega
      · unfold firstP at hc
        obtain ⟨i, hi, rfl⟩ := List.mem_map.mp hc
        have := List.mem_range.mp hi
        omega
    have ly1 : ∀ q ∈ O, Lay (.lst ((srt (ts.map (nameT p q))).map D.str)) (.list ((srt (ts.map (nameT p q))).map PyData.str)) 1 := fun q hq => by
      obtain ⟨m, om, otm⟩ := otq q hq
      exact lay_lst (lay_tie om otm 0)
    have ly : LayL (O.map fun q => .lst ((srt (ts.map (nameT p q))).map D.str)) (O.map fun q => PyData.list ((srt (ts.map (nameT p q))).map PyData.str)) 1 := layL_map ly1
    have em : ((O.map fun w => D.str (toS w)).map fun d => D.lst ((srt (ts.map (nameT p (unT d)))).map D.str)) = O.map fun q => .lst ((srt (ts.map (nameT p q))).map D.str) := by
      rw [List.map_map]
      refine List.map_congr_left fun q _ => ?_
      show D.lst ((srt (ts.map (nameT p (unT (.str (toS q)))))).map D.str) = _
      rw [unT_toS]
    refine (show DL.minDs ((O.map fun w => D.str (toS w)).map fun d => D.lst ((srt (ts.map (nameT p (unT d)))).map D.str)) _ from ?_)
    rw [em]
    refine ⟨_, ly.py, ⟨fun x hx y hy => ?_, fun x hx => ?_⟩, Nat.le_trans ly.dep (by decide), ?_, ?_⟩
    · obtain ⟨q, _, rfl⟩ := List.mem_map.mp hx
      obtain ⟨r, _, rfl⟩ := List.mem_map.mp hy
      exact alike_strs _ _
    · obtain ⟨q, _, rfl⟩ := List.mem_map.mp hx
      intro z
      cases z
    · intro z
      have := List.map_eq_nil_iff.mp z
      have h1 := (memO (firstP p)).mpr (.refl _)
      rw [this] at h1
      cases h1
    · intro p0 pr e i d hd hm
      rw [List.getElem?_map] at hd
      obtain ⟨q, hq, rfl⟩ : ∃ q, O[i]? = some q ∧ D.lst ((srt (ts.map (nameT p q))).map D.str) = d := by
        cases q : O[i]? with
        | none => rw [q] at hd; cases hd
        | some k => rw [q] at hd; exact ⟨k, rfl, Option.some.inj hd⟩
      have qO := List.mem_of_getElem? hq
      rw [(ly1 q qO).py] at hm
      have hm := Option.some.inj hm
      obtain ⟨least, _⟩ := minD_least pr p0
      refine ⟨True.intro, ?_⟩
      refine ⟨by show ((srt (ts.map (nameT p q))).map D.str).length + 1 ≤ sizeLine; rw [List.length_map, szl, sizeLine_eq]; omega, ?_⟩
      refine ⟨toS (firstP p) :: srt (ts.map (nameT p q)), rfl, page_fits (by omega) (by rw [szl]; exact few) (two q), ?_⟩
      rw [join_page]
      refine h _ ⟨⟨q, (memO q).mp qO, rfl⟩, fun r hr => ?_⟩
      have rO := (memO r).mpr hr
      have hin : PyData.list ((srt (ts.map (nameT p r))).map PyData.str) = p0 ∨ PyData.list ((srt (ts.map (nameT p r))).map PyData.str) ∈ pr := by
        have : PyData.list ((srt (ts.map (nameT p r))).map PyData.str) ∈ p0 :: pr := by rw [← e]; exact List.mem_map.mpr ⟨r, rO, rfl⟩
        exact List.mem_cons.mp this
      have l1 := least _ hin
      rw [← hm, list_pages (two r) (two q) (by rw [szl, szl]) (firstP p)] at l1
      exact of_decide_eq_false l1
def N33 : List Str := ["web"]
theorem sc33 : FnScope N33 ["web"] (defScope (top 33)) := ⟨rfl, rfl, rfl, by decide +kernel, rfl, by decide +kernel, by decide +kernel⟩
theorem ok_count_renamings (T : Tx K mg A) : FnOk P w K mg base CX0 8 A.count_renamings A.fd_count_renamings ["web"] (toSp K (g_count_renamings A.Web)) := by
  refine okDF T.F_count_renamings sc33 (fun ds μ R h => ?_) ⟨_, fun cdv A0 outer s H E hr =>
    (dss_cons (ds_expr (de_call ((ok_check_web T).mono (by decide)) hr (by rfl) T.g_check_web T.F_check_web.kp T.b_check_web (da_cons (dv 0) da_nil)))
      (dss_one (ds_ret (de_callB cr_len sim_len (by rfl) T.z_len boot_len (da_cons (de_call ((ok_renamings T).mono (by decide)) hr (by rfl) T.g_renamings T.F_renamings.kp T.b_renamings (da_cons (dv 0) (da_cons (dv 0) da_nil))) da_nil))))), fun ds μ R h => ?_⟩
  · obtain ⟨p, ts, rfl, _⟩ := h
    rfl
  · obtain ⟨p, ts, rfl, op, ot, few, p4, h⟩ := h
    refine ⟨p, ts, rfl, ?_⟩
    refine ⟨p, ts, rfl, op, ot, few, p4, ?_⟩
    show freed R (.int ((((rowsP p ts p.length).map fun w => D.str (toS w)).length : Nat) : Int)) μ
    rw [List.length_map, rows_own (op.asc.imp fun h => Nat.ne_of_lt h) ot]
    exact freed_now h
end
end K10
set_option Elab.async false
set_option linter.all false
set_option maxRecDepth 100000
namespace K10
open PySem PySem.Spec PyProof.Rows L2 DL
section
variable {P : Program} {w : World} {K : PySem.W.Frag} {mg : Str → Option Value} {base : Heap} {A : Ad}
/-! ### pages, orders, names: the law's side -/
def g_L_page : GC := fun ds μ R => ∃ (p : List Nat) (ts : List Str), ds = [dNet p ts] ∧ p.length ≤ 8 ∧ ts.length ≤ 11 ∧ (∀ y ∈ ts, y.cps.size = 2) ∧ R (.str (pgS p ts)) μ
def g_L_orders : GC := fun ds μ R => ∃ s : List Nat, ds = [.str (toS s)] ∧ s.length ≤ 4 ∧ R (.lst ((ordN s s.length).map fun w => .str (toS w))) μ
def g_L_by : GC := fun ds μ R => ∃ (p q m : List Nat) (ts : List Str), ds = [dNet p ts, .str (toS q)] ∧ OkPlaces p ∧ OkT p ts ∧ ts.length ≤ 11 ∧ q.length = p.length ∧ m.Perm q ∧ m.Pairwise (· ≤ ·) ∧ R (dNet m (ts.map (nameT p q))) μ
theorem merge_put (f : Nat → D) : ∀ (l acc : List Nat), (acc ++ l).Nodup → DL.mergeD (acc.map fun c => ((Sum.inr (sg c) : Key), f c)) (l.map fun c => ((Sum.inr (sg c) : Key), f c)) = (acc ++ l).map fun c => ((Sum.inr (sg c) : Key), f c)
  | [], acc, _ => by
    rw [List.append_nil]
    rfl
  | c :: l, acc, nd => by
    have e : acc ++ c :: l = (acc ++ [c]) ++ l := by rw [List.append_assoc]; rfl
    have nin : c ∉ acc := fun z => (List.nodup_append.mp nd).2.2 c z c List.mem_cons_self rfl
    show DL.mergeD (DL.putD (acc.map fun c => ((Sum.inr (sg c) : Key), f c)) (Sum.inr (sg c)) (f c)) (l.map fun c => ((Sum.inr (sg c) : Key), f c)) = _
    rw [kvS_put f acc c nin, e]
    exact merge_put f l (acc ++ [c]) (e ▸ nd)
def pairF (p q : List Nat) : D → D
  | .int k => DL.pairD (Sum.inr (sg (p.getD k.toNat 0)), .str (sg (q.getD k.toNat 0)))
  | d => d
def N63 : List Str := ["_law_net_here"]
theorem sc63 : FnScope N63 ["_law_net_here"] (defScope (top 63)) := ⟨rfl, rfl, rfl, by decide +kernel, rfl, by decide +kernel, by decide +kernel⟩
theorem ok_L_page (T : Tx K mg A) : FnOk P w K mg base CX0 1 A.L_page A.fd_L_page ["_law_net_here"] (toSp K (g_L_page)) := by
  refine okD T.F_L_page sc63 (fun ds μ R h => ?_) ⟨_, fun cdv A0 outer s H E hr =>
    (dss_one (ds_ret (de_bm PySem.F.plainAttrs_str PySem.F.slot_str_join PySem.F.type_str_join mt_join sim_join ok_str de_str (da_cons (de_op op_plus sim_plus (de_lst (da_cons (de_ix ix_any sim_ix (dv 0) de_int (fun _ _ => rfl)) da_nil)) (de_callTy call_list_of sim_list (by rfl) T.z_list boot_list (da_cons (de_ix ix_any sim_ix (dv 0) de_int (fun _ _ => rfl)) da_nil))) da_nil)))), fun ds μ R h => ?_⟩
  · obtain ⟨p, ts, rfl, _⟩ := h
    rfl
  · obtain ⟨p, ts, rfl, p8, few, two, h⟩ := h
    refine ⟨True.intro, ?_⟩
    refine ⟨by show 1 ≤ sizeLine; decide, ?_⟩
    refine ⟨by show (1 : Nat) + (ts.map D.str).length ≤ sizeLine; rw [List.length_map, sizeLine_eq]; omega, ?_⟩
    refine ⟨toS p :: ts, rfl, page_fits p8 few two, ?_⟩
    rw [join_page]
    exact h
def N64 : List Str := ["_law_signs", "_law_found", "_law_turn", "_law_later", "_law_each", "_law_sign"]
theorem sc64 : FnScope N64 ["_law_signs"] (defScope (top 64)) := ⟨rfl, rfl, rfl, by decide +kernel, rfl, by decide +kernel, by decide +kernel⟩
theorem ok_L_orders (T : Tx K mg A) : FnOk P w K mg base CX0 1 A.L_orders A.fd_L_orders ["_law_signs"] (toSp K (g_L_orders)) := by
  refine okD T.F_L_orders sc64 (fun ds μ R h => ?_) ⟨_, fun cdv A0 outer s H E hr =>
    (dss_cons (ds_set sc64.nd (i := 1) rfl (by first | exact Or.inl rfl | exact Or.inr rfl) (de_lst (da_cons de_str da_nil)))
      (dss_cons (ds_for PassesOwn.never rfl (di_str (dv 0)) (pg_name (i := 2) sc64.nd rfl (by first | exact Or.inl rfl | exact Or.inr rfl)) (sim_nm (i := 2))
      (dss_cons (ds_set sc64.nd (i := 3) rfl (by first | exact Or.inl rfl | exact Or.inr rfl) (de_lst da_nil))
      (dss_cons (ds_for PassesOwn.never rfl (di_both (dv 1)) (pg_name (i := 4) sc64.nd rfl (by first | exact Or.inl rfl | exact Or.inr rfl)) (sim_nm (i := 4))
      (dss_one (ds_set sc64.nd (i := 3) rfl (by first | exact Or.inl rfl | exact Or.inr rfl) (de_op op_plus sim_plus (dv 3) (de_lc (own := [("_law_sign", 5)]) (by rfl) sc64.nd (di_str (dv 0)) (blkOk_by (N := N64) (own := [("_law_sign", 5)]) (sc := defScope (top 64)) (by decide +kernel)) (fun _ _ _ _ _ => (pg_name (i := 5) sc64.nd rfl (by first | exact Or.inl rfl | exact Or.inr rfl))) (sim_nm (i := 5)) (fun _ _ _ _ _ => (dts_one (dt_cmp op_notInA sim_notIn (dv 5) (dv 4) rfl))) (fun _ _ _ _ _ => (de_op op_plus sim_plus (dv 4) (dv 5))))))))
      (dss_one (ds_set sc64.nd (i := 1) rfl (by first | exact Or.inl rfl | exact Or.inr rfl) (dv 3))))))
      (dss_one (ds_ret (dv 1))))), fun ds μ R h => ?_⟩
  · obtain ⟨s, rfl, _⟩ := h
    rfl
  · obtain ⟨s, rfl, few, h⟩ := h
    have e0 : ("" : Str) = toS [] := by decide +kernel
    refine ⟨by show 1 ≤ sizeLine; decide, ?_⟩
    have many : ∀ i, i ≤ 4 → (ordN s i).length ≤ 256 := fun i hi => Nat.le_trans (ord_few few i) (Nat.le_trans (Nat.pow_le_pow_right (by decide) hi) (by decide))
    refine ⟨fun i δ' μ' => μ' = μ ∧ i ≤ s.length ∧ ∃ o2 o3 o4 : Option D, δ' = [some (.str (toS s)), some (.lst ((ordN s i).map fun w => .str (toS w))), o2, o3, o4, none], ⟨rfl, Nat.zero_le _, none, none, none, by rw [e0]; rfl⟩, ?_, ?_⟩
    · rintro i it δ' μ' hi ⟨rfl, _, o2, o3, o4, rfl⟩
      have hlt : i < s.length := by
        have := (List.getElem?_eq_some_iff.mp hi).1
        rw [signs_toS, List.length_map] at this
        exact this
      have fw := many i (by omega)
      refine ⟨by show 0 ≤ sizeLine; decide, ?_⟩
      refine ⟨fun j δ' μ'' => μ'' = μ' ∧ ∃ o4 : Option D, δ' = [some (.str (toS s)), some (.lst ((ordN s i).map fun w => .str (toS w))), some it, some (.lst ((ordStep s ((ordN s i).take j)).map fun w => .str (toS w))), o4, none], ⟨rfl, o4, rfl⟩, ?_, ?_⟩
      · rintro j jt δ'' μ'' hj ⟨rfl, o4, rfl⟩
        have hlj : j < (ordN s i).length := by
          have := (List.getElem?_eq_some_iff.mp hj).1
          rw [List.length_map] at this
          exact this
        obtain ⟨w, hw⟩ : ∃ w, w = (ordN s i)[j] := ⟨_, rfl⟩
        have ej : jt = .str (toS w) := by
          rw [List.getElem?_map, List.getElem?_eq_getElem hlj] at hj
          rw [hw]
          exact (Option.some.inj hj).symm
        subst ej
        have lw : w.length = i := (ord_mem.mp (by rw [hw]; exact List.getElem_mem _ : w ∈ ordN s i)).1
        show LcB _ _ _ _ _ _ _ _
        refine lcb_pure (fun y => decide ((unT y).headD 0 ∉ w)) (txF (.str (toS w))) ?_ ?_ ?_
        · rw [signs_toS, List.length_map, sizeLine_eq]
          omega
        · intro d hd ν N Y _ hN hY
          rw [signs_toS] at hd
          obtain ⟨c, hc, rfl⟩ := List.mem_map.mp hd
          refine ⟨c, rfl, ?_⟩
          have e1 : (not (decide (c ∈ (toS w).cps.toList))) = decide ((unT (.str (sg c))).headD 0 ∉ w) := by
            rw [toS_list, ← decide_not]
            rfl
          refine if_case (c := not (decide (c ∈ (toS w).cps.toList))) (fun z => ?_) (fun z => hN (e1 ▸ z))
          refine ⟨?_, hY (e1 ▸ z)⟩
          show (toS w).length + 1 ≤ sizeLine
          rw [toS_size, sizeLine_eq]
          omega
        have e : ((DL.signs (toS s)).filter fun y => decide ((unT y).headD 0 ∉ w)).map (txF (.str (toS w))) = ((s.filter fun c => decide (c ∉ w)).map fun c => w ++ [c]).map fun w => D.str (toS w) := by
          rw [signs_toS, List.filter_map, List.map_map, List.map_map]
          refine List.map_congr_left fun c _ => ?_
          show D.str (toS w ++ sg c) = _
          rw [toS_one]
          rfl
        rw [e]
        have fs : (ordStep s ((ordN s i).take j)).length ≤ 256 * 4 := grow_few (by rw [List.length_take]; omega) _ fun w => Nat.le_trans (List.length_filter_le _ _) few
        have ff := List.length_filter_le (fun c => decide (c ∉ w)) s
        refine ⟨by rw [List.length_map, List.length_map, List.length_map, sizeLine_eq]; omega, ?_⟩
        refine ⟨rfl, some (.str (toS w)), ?_⟩
        rw [← List.map_append]
        have ea : ordStep s ((ordN s i).take j) ++ ((s.filter fun c => decide (c ∉ w)).map fun c => w ++ [c]) = ordStep s ((ordN s i).take (j + 1)) := by
          unfold ordStep
          rw [List.take_succ, List.getElem?_eq_getElem hlj, List.flatMap_append, ← hw]
          show _ = _ ++ List.flatMap _ [w]
          rw [List.flatMap_cons, List.flatMap_nil, List.append_nil]
        rw [ea]
        rfl
      · rintro δ'' μ'' ⟨rfl, o4, rfl⟩
        rw [List.length_map, List.take_length]
        exact ⟨rfl, hlt, _, _, _, rfl⟩
    · rintro δ' μ' ⟨rfl, _, o2, o3, o4, rfl⟩
      have ln : (DL.signs (toS s)).length = s.length := by rw [signs_toS, List.length_map]
      rw [ln]
      exact h
def N65 : List Str := ["_law_net_here", "_law_signs", "_law_names_here", "_law_rows", "_law_row", "_law_k"]
theorem sc65 : FnScope N65 ["_law_net_here", "_law_signs"] (defScope (top 65)) := ⟨rfl, rfl, rfl, by decide +kernel, rfl, by decide +kernel, by decide +kernel⟩
theorem ok_L_by (T : Tx K mg A) : FnOk P w K mg base CX0 2 A.L_by A.fd_L_by ["_law_net_here", "_law_signs"] (toSp K (g_L_by)) := by
  refine okDF T.F_L_by sc65 (fun ds μ R h => ?_) ⟨_, fun cdv A0 outer s H E hr =>
    (dss_cons (ds_set sc65.nd (i := 2) rfl (by first | exact Or.inl rfl | exact Or.inr rfl) (de_callTy (call_dictP (by rfl)) sim_dictP (by rfl) T.z_dict boot_dict (da_cons (de_lc (own := [("_law_k", 5)]) (by rfl) sc65.nd (di_range (by rfl) T.z_range (da_cons (de_callB cr_len sim_len (by rfl) T.z_len boot_len (da_cons (dv 1) da_nil)) da_nil)) (blkOk_by (N := N65) (own := [("_law_k", 5)]) (sc := defScope (top 65)) (by decide +kernel)) (fun _ _ _ _ _ => (pg_name (i := 5) sc65.nd rfl (by first | exact Or.inl rfl | exact Or.inr rfl))) (sim_nm (i := 5)) (fun _ _ _ _ _ => dts_nil) (fun _ _ _ _ _ => (de_tup (da_cons (de_ix ix_any sim_ix (de_ix ix_any sim_ix (dv 0) de_int (fun _ _ => rfl)) (dv 5) (fun _ _ => rfl)) (da_cons (de_ix ix_any sim_ix (dv 1) (dv 5) (fun _ _ => rfl)) da_nil))))) da_nil)))
      (dss_cons (ds_setLc (i := 3) (own := [("_law_row", 4)]) (by rfl) sc65.nd rfl rfl (sw_true rfl rfl rfl (by decide +kernel)) (di_both (de_ix ix_any sim_ix (dv 0) de_int (fun _ _ => rfl))) (blkOk_by (N := N65) (own := [("_law_row", 4)]) (sc := defScope (top 65)) (by decide +kernel)) (fun _ _ _ _ _ => (pg_name (i := 4) sc65.nd rfl (by first | exact Or.inl rfl | exact Or.inr rfl))) (sim_nm (i := 4)) (fun _ _ _ _ _ => dts_nil) (fun _ _ _ _ _ => (de_call ((ok_L_joint T).mono (by decide)) hr (by rfl) T.g_L_joint T.F_L_joint.kp T.b_L_joint (da_cons (de_dget (hu_of hr) (dv 2) (de_ix ix_any sim_ix (dv 4) de_int (fun _ _ => rfl)) (fun _ _ => rfl)) (da_cons (de_dget (hu_of hr) (dv 2) (de_ix ix_any sim_ix (dv 4) de_int (fun _ _ => rfl)) (fun _ _ => rfl)) da_nil)))))
      (dss_one (ds_ret (de_tup (da_cons (de_bm PySem.F.plainAttrs_str PySem.F.slot_str_join PySem.F.type_str_join mt_join sim_join ok_str de_str (da_cons (de_callB (DL.cr_sortedT (by rfl)) sim_sortedT (by rfl) T.z_sorted boot_sorted (da_cons (dv 1) da_nil)) da_nil)) (da_cons (dv 3) da_nil))))))), fun ds μ R h => ?_⟩
  · obtain ⟨p, q, m, ts, rfl, _⟩ := h
    rfl
  · obtain ⟨p, q, m, ts, rfl, op, ot, few, lq, pm, asc, h⟩ := h
    have un : p.Pairwise (· ≠ ·) := op.asc.imp fun h => Nat.ne_of_lt h
    have p7 := op.few
    have gp : ∀ {i}, i < p.length → p[i]? = some (p.getD i 0) := fun {i} hi => by rw [List.getD_eq_getElem?_getD, List.getElem?_eq_getElem hi]; rfl
    have gq : ∀ {i}, i < q.length → q[i]? = some (q.getD i 0) := fun {i} hi => by rw [List.getD_eq_getElem?_getD, List.getElem?_eq_getElem hi]; rfl
    have zq : (toS q).length = q.length := toS_size q
    refine ⟨by rw [zq, sizeLine_eq]; omega, ?_⟩
    refine ⟨⟨by omega, by omega⟩, ?_⟩
    show LcB _ _ _ _ _ _ _ _
    refine lcb_map (pairF p q) (by rw [List.length_map, List.length_range, sizeLine_eq]; omega) ?_ ?_
    · intro d hd ν Y kp hY
      obtain ⟨k, hk, rfl⟩ := List.mem_map.mp hd
      have hk := List.mem_range.mp hk
      have hk : k < q.length := by omega
      refine ⟨by show (toS p).length ≤ sizeLine; rw [toS_size, sizeLine_eq]; omega, ?_⟩
      rw [toS_list, show L2.atI p ((k : Nat) : Int) = some (p.getD k 0) from atI_nat (gp (by omega))]
      refine ⟨by show (toS q).length ≤ sizeLine; rw [toS_size, sizeLine_eq]; omega, ?_⟩
      rw [toS_list, show L2.atI q ((k : Nat) : Int) = some (q.getD k 0) from atI_nat (gq hk)]
      exact ⟨by show 2 ≤ sizeLine; decide, hY⟩
    have el : ((List.range ((toS q).length : Int).toNat).map fun i => D.int (i : Nat)).map (pairF p q) = (p.map fun c => ((Sum.inr (sg c) : Key), D.str (sg (forL p q c)))).map DL.pairD := by
      rw [List.map_map, List.map_map]
      refine List.ext_getElem (by rw [List.length_map, List.length_map, List.length_range, zq]; omega) fun i h1 h2 => ?_
      rw [List.length_map] at h2
      rw [List.getElem_map, List.getElem_map, List.getElem_range]
      show DL.pairD (Sum.inr (sg (p.getD (i : Int).toNat 0)), .str (sg (q.getD (i : Int).toNat 0))) = DL.pairD (Sum.inr (sg p[i]), D.str (sg (forL p q p[i])))
      rw [for_at un lq h2, Int.toNat_natCast, List.getD_eq_getElem?_getD, List.getElem?_eq_getElem h2, List.getD_eq_getElem?_getD, List.getElem?_eq_getElem (by omega : i < q.length)]
      rfl
    rw [el]
    refine ⟨_, rfl, fun a na => ?_⟩
    have em : DL.mergeD [] (p.map fun c => ((Sum.inr (sg c) : Key), D.str (sg (forL p q c)))) = p.map fun c => ((Sum.inr (sg c) : Key), D.str (sg (forL p q c))) := merge_put (fun c => D.str (sg (forL p q c))) p [] un
    rw [em]
    have two : ∀ a b : Nat, (yTie a b).length ≤ sizeLine := fun a b => by show 2 ≤ sizeLine; decide
    show LcB _ _ _ _ _ _ _ _
    refine lcb_map (fun d => match d with | .str y => .str (nameT p q y) | d => d) (by rw [List.length_map, sizeLine_eq]; omega) ?_ ?_
    · intro d hd ν Y kp hY
      obtain ⟨y, hy, rfl⟩ := List.mem_map.mp hd
      obtain ⟨c, e, rfl, hc, he, _⟩ := ot.ties y hy
      have hat := kp a _ put_same
      refine ⟨two c e, ?_⟩
      refine ⟨_, _, _, hat, key_sg _, kvS_val (fun c => D.str (sg (forL p q c))) p c hc, ?_⟩
      refine ⟨two c e, ?_⟩
      refine ⟨_, _, _, hat, key_sg _, kvS_val (fun c => D.str (sg (forL p q c))) p e he, ?_⟩
      exact ⟨_, _, rfl, hY⟩
    have eq_ : (ts.map D.str).map (fun d => match d with | .str y => D.str (nameT p q y) | d => d) = (ts.map (nameT p q)).map D.str := by
      rw [List.map_map, List.map_map]
      rfl
    rw [eq_]
    refine ⟨True.intro, ?_⟩
    refine ⟨by show (toS q).length ≤ sizeLine; rw [zq, sizeLine_eq]; omega, fun ys hp hs => ?_⟩
    rw [toS_list] at hp
    obtain ⟨ms, h1, h2, rfl⟩ := sorted_signs (f := q) hp hs
    have len := h1.length_eq
    refine ⟨_, rfl, by rw [sum_sg]; have : ("" : Str).length = 0 := (by decide +kernel); rw [this]; omega, ?_⟩
    rw [show Txt.join ("" : Str) (ms.map sg) = toS ms from join_sg ms]
    have e1 : ms = m := (h1.trans pm.symm).eq_of_pairwise (fun _ _ _ _ x y => Nat.le_antisymm x y) h2 asc
    rw [e1]
    refine ⟨by show 2 ≤ sizeLine; decide, ?_⟩
    exact ⟨_, μ, .less fun c o hc => by rw [put_ne (fun z => by rw [z, na] at hc; cases hc)]; exact hc, h⟩
end
end K10
set_option Elab.async false
set_option linter.all false
set_option maxRecDepth 100000
namespace K10
open PySem PySem.Spec PyProof.Rows L2 DL
section
variable {P : Program} {w : World} {K : PySem.W.Frag} {mg : Str → Option Value} {base : Heap} {A : Ad}
/-! ### one web by other letters -/
def g_L_single (C : Addr) : GC := fun ds μ R => ∃ (p q : List Nat) (ts : List Str), ds = [dWeb C p ts, dNet p ts, .str (toS q)] ∧ OkPlaces p ∧ OkT p ts ∧ ts.length ≤ 11 ∧ p.length ≤ 4 ∧ OkLetters q ∧ q.length = p.length ∧ R (.bl true) μ
def g_L_stays (C : Addr) : GC := fun ds μ R => ∃ (p q m : List Nat) (ts : List Str), ds = [dWeb C p ts, dWeb C m (ts.map (nameT p q))] ∧ OkPlaces p ∧ OkT p ts ∧ ts.length ≤ 11 ∧ OkLetters q ∧ q.length = p.length ∧ m.Perm q ∧ m.Pairwise (· ≤ ·) ∧ R (.bl true) μ
theorem named_places {p q m : List Nat} (op : OkPlaces p) (ol : OkLetters q) (l : q.length = p.length) (pm : m.Perm q) (asc : m.Pairwise (· ≤ ·)) : OkPlaces m :=
  ⟨by rw [pm.length_eq, l]; exact op.one, by rw [pm.length_eq, l]; exact op.few, strict_ofM asc (pm.nodup_iff.mpr ol.1), fun c hc => ol.2.2 c (pm.subset hc)⟩
theorem places_letters {p q : List Nat} (op : OkPlaces p) (h : q.Perm p) : OkLetters q := ⟨h.nodup_iff.mpr (op.asc.imp fun h => Nat.ne_of_lt h), by rw [h.length_eq]; have := op.few; omega, fun c hc => op.sign c (h.subset hc)⟩
theorem no_text (a b : D) : List.lookup ("text" : Str) [("places", a), ("ties", b)] = none := by
  have h1 : (("text" : Str) == ("places" : Str)) = false := by decide +kernel
  have h2 : (("text" : Str) == ("ties" : Str)) = false := by decide +kernel
  rw [List.lookup_cons, h1]
  show List.lookup ("text" : Str) [("ties", b)] = none
  rw [List.lookup_cons, h2]
  rfl
theorem lay_lots (l : List (List Nat)) : Lay (.tup (l.map dLot)) (.tuple (l.map fun u => PyData.tuple ((u.map Int.ofNat).map PyData.int))) 2 := lay_tup (layL_map fun u _ => lay_tup (layL_ints _ 0))
theorem lst_sameE {ds : List D} {ps : List PyData} {n : Nat} {μ : Mu} {R : KD} (h : LayL ds ps n) (hn : n + 1 ≤ 64) (q : R (.bl true) μ) : gEq (.lst ds) (.lst ds) μ R := (lay_lst h).same (k := id) hn q
def N66 : List Str := ["_law_mine", "_law_net_here", "_law_signs", "_law_due", "_law_fresh", "_law_ordered", "_law_back", "_law_sign"]
theorem sc66 : FnScope N66 ["_law_mine", "_law_net_here", "_law_signs"] (defScope (top 66)) := ⟨rfl, rfl, rfl, by decide +kernel, rfl, by decide +kernel, by decide +kernel⟩
theorem ok_L_single_right (T : Tx K mg A) : FnOk P w K mg base CX0 10 A.L_single_right A.fd_L_single_right ["_law_mine", "_law_net_here", "_law_signs"] (toSp K (g_L_single A.Web)) := by
  refine okD T.F_L_single_right sc66 (fun ds μ R h => ?_) ⟨_, fun cdv A0 outer s H E hr =>
    (dss_cons (ds_set sc66.nd (i := 3) rfl (by first | exact Or.inl rfl | exact Or.inr rfl) (de_call ((ok_L_by T).mono (by decide)) hr (by rfl) T.g_L_by T.F_L_by.kp T.b_L_by (da_cons (dv 1) (da_cons (dv 2) da_nil))))
      (dss_cons (ds_set sc66.nd (i := 4) rfl (by first | exact Or.inl rfl | exact Or.inr rfl) (de_call ((ok_renamed T).mono (by decide)) hr (by rfl) T.g_renamed T.F_renamed.kp T.b_renamed (da_cons (dv 0) (da_cons (dv 2) da_nil))))
      (dss_cons (ds_if (dw_or (dt_cmp (op_neA hr.units) sim_ne (de_meth0 (dv 4) T.k_Web T.t_Web_text ((ok_Web_text T).mono (by decide)) hr T.b_Web_text) (de_call ((ok_L_page T).mono (by decide)) hr (by rfl) T.g_L_page T.F_L_page.kp T.b_L_page (da_cons (dv 3) da_nil)) (nomark _)) (dw_or1 (dt_cmp (op_neI ((ok_Web_eq T).mono (by decide)) hr T.b_Web_eq rfl T.ne_Web T.s_Web_eq T.f_Web_eq (by exact T.ob_Web)) sim_neI (de_callK0 (gD := swp2) ((ok_renamed T).mono (by decide)) hr (by rfl) T.g_renamed T.F_renamed.kp T.kb_renamed (fun H μ ds vs h l => by exact swp2_rep h l) (dk_cons (dv 2) (dk_cons (dv 0) dk_nil))) (dv 4) (nomark _)))).dt (dss_one (ds_ret de_bl)) dss_nil)
      (dss_cons (ds_set sc66.nd (i := 5) rfl (by first | exact Or.inl rfl | exact Or.inr rfl) (de_callB (DL.cr_sortedT (by rfl)) sim_sortedT (by rfl) T.z_sorted boot_sorted (da_cons (dv 2) da_nil)))
      (dss_cons (ds_set sc66.nd (i := 6) rfl (by first | exact Or.inl rfl | exact Or.inr rfl) (de_bm PySem.F.plainAttrs_str PySem.F.slot_str_join PySem.F.type_str_join mt_join sim_join ok_str de_str (da_cons (de_lc (own := [("_law_sign", 7)]) (by rfl) sc66.nd (di_both (dv 5)) (blkOk_by (N := N66) (own := [("_law_sign", 7)]) (sc := defScope (top 66)) (by decide +kernel)) (fun _ _ _ _ _ => (pg_name (i := 7) sc66.nd rfl (by first | exact Or.inl rfl | exact Or.inr rfl))) (sim_nm (i := 7)) (fun _ _ _ _ _ => dts_nil) (fun _ _ _ _ _ => (de_ix ix_any sim_ix (de_ix ix_any sim_ix (dv 1) de_int (fun _ _ => rfl)) (de_bm PySem.F.plainAttrs_str PySem.F.slot_str_index PySem.F.type_str_index mt_sindex sim_index ok_str (dv 2) (da_cons (dv 7) da_nil)) (fun _ _ => rfl)))) da_nil)))
      (dss_one (ds_ret (de_and (de_cmp (op_eqI ((ok_Web_eq T).mono (by decide)) hr T.b_Web_eq rfl T.s_Web_eq T.f_Web_eq) sim_eqI (de_call ((ok_renamed T).mono (by decide)) hr (by rfl) T.g_renamed T.F_renamed.kp T.b_renamed (da_cons (dv 4) (da_cons (dv 6) da_nil))) (dv 0) (nomark _)) (de_one (de_cmp (op_eqA hr.units) sim_eq (de_call ((ok_plain_text T).mono (by decide)) hr (by rfl) T.g_plain_text T.F_plain_text.kp T.b_plain_text (da_cons (dv 4) da_nil)) (de_call ((ok_plain_text T).mono (by decide)) hr (by rfl) T.g_plain_text T.F_plain_text.kp T.b_plain_text (da_cons (dv 0) da_nil)) (nomark _))))))))))), fun ds μ R h => ?_⟩
  · obtain ⟨p, q, ts, rfl, _⟩ := h
    rfl
  · obtain ⟨p, q, ts, rfl, op, ot, few, p4, ol, lq, h⟩ := h
    have un : p.Pairwise (· ≠ ·) := op.asc.imp fun h => Nat.ne_of_lt h
    have uq : q.Pairwise (· ≠ ·) := ol.1
    obtain ⟨m, pm, asc⟩ := sort_nat q
    have om := named_places op ol lq pm asc
    have otm : OkT m (ts.map (nameT p q)) := name_okT lq pm ot
    have l2 : (ts.map (nameT p q)).length = ts.length := List.length_map _
    have lm : m.length = p.length := by rw [pm.length_eq, lq]
    refine ⟨p, q, m, ts, rfl, op, ot, few, lq, pm, asc, ?_⟩
    refine ⟨p, q, m, ts, rfl, op, ot, few, ol, lq, pm, asc, ?_⟩
    refine ⟨_, rfl, no_text _ _, m, ts.map (nameT p q), rfl, om, otm, by omega, ?_⟩
    refine ⟨m, ts.map (nameT p q), rfl, by have := om.few; omega, by omega, okT_two otm, ?_⟩
    refine if_case (c := !decide (pgS m (ts.map (nameT p q)) = pgS m (ts.map (nameT p q)))) (fun z => by rw [decide_eq_true rfl] at z; cases z) (fun _ => ?_)
    refine ⟨rfl, p, q, m, ts, rfl, op, ot, few, ol, lq, pm, asc, ?_⟩
    refine ⟨_, _, rfl, rfl, m, _, rfl, om, otm, true, rfl, ?_⟩
    refine ⟨by show (toS q).length ≤ sizeLine; rw [toS_size, sizeLine_eq]; have := ol.2.1; omega, fun ys hp hs => ?_⟩
    rw [toS_list] at hp
    obtain ⟨ms, h1, h2, rfl⟩ := sorted_signs (f := q) hp hs
    have e1 : ms = m := (h1.trans pm.symm).eq_of_pairwise (fun _ _ _ _ x y => Nat.le_antisymm x y) h2 asc
    rw [e1]
    refine ⟨True.intro, ?_⟩
    show LcB _ _ _ _ _ _ _ _
    refine lcb_map (fun d => .str (sg (forL q p ((unT d).headD 0)))) (by rw [List.length_map, List.length_map, sizeLine_eq]; have := om.few; omega) ?_ ?_
    · intro d hd ν Y kp hY
      obtain ⟨y, hy, rfl⟩ := List.mem_map.mp hd
      obtain ⟨c, hc, rfl⟩ := List.mem_map.mp hy
      have cq := pm.subset hc
      have ci := List.idxOf_lt_length_of_mem cq
      refine ⟨True.intro, ?_⟩
      refine ⟨_, _, occ_first' cq, ?_⟩
      refine ⟨by show (toS p).length ≤ sizeLine; rw [toS_size, sizeLine_eq]; omega, ?_⟩
      rw [toS_list, show L2.atI p ((q.idxOf c : Nat) : Int) = some (forL q p c) from atI_nat (by
        unfold forL
        rw [List.getD_eq_getElem?_getD, List.getElem?_eq_getElem (by omega)]
        rfl)]
      exact hY
    have eb : ((m.map sg).map D.str).map (fun d => D.str (sg (forL q p ((unT d).headD 0)))) = ((m.map (forL q p)).map sg).map D.str := by
      rw [List.map_map, List.map_map, List.map_map, List.map_map]
      rfl
    rw [eb]
    have lb : (m.map (forL q p)).length = p.length := by rw [List.length_map, lm]
    refine ⟨_, rfl, by rw [sum_sg, List.length_map]; have : ("" : Str).length = 0 := (by decide +kernel); rw [this]; omega, ?_⟩
    rw [show Txt.join ("" : Str) ((m.map (forL q p)).map sg) = toS (m.map (forL q p)) from join_sg _]
    have pb : (m.map (forL q p)).Perm p := by
      have := pm.map (forL q p)
      rwa [map_for uq lq.symm] at this
    refine ⟨m, m.map (forL q p), p, ts.map (nameT p q), rfl, om, otm, by omega, places_letters op pb, by rw [lb, lm], pb.symm, op.asc.imp Nat.le_of_lt, ?_⟩
    rw [names_back uq lq pm ot]
    refine ⟨_, _, rfl, rfl, p, ts, rfl, op, ot, true, rfl, ?_⟩
    refine ⟨m, ts.map (nameT p q), rfl, om, otm, by omega, by omega, fun t ht => ?_⟩
    refine ⟨p, ts, rfl, op, ot, few, p4, fun s hs => ?_⟩
    have e2 := (plain_named uq lq pm ot ht).only hs
    have e3 : decide (t = s) = true := decide_eq_true e2
    show R (.bl (decide (t = s))) μ
    rw [e3]
    exact h
def N67 : List Str := ["_law_mine", "_law_fresh", "_law_one"]
theorem sc67 : FnScope N67 ["_law_mine", "_law_fresh"] (defScope (top 67)) := ⟨rfl, rfl, rfl, by decide +kernel, rfl, by decide +kernel, by decide +kernel⟩
theorem ok_L_stays (T : Tx K mg A) : FnOk P w K mg base CX0 10 A.L_stays A.fd_L_stays ["_law_mine", "_law_fresh"] (toSp K (g_L_stays A.Web)) := by
  refine okD T.F_L_stays sc67 (fun ds μ R h => ?_) ⟨_, fun cdv A0 outer s H E hr =>
    (dss_cons (ds_set sc67.nd (i := 2) rfl (by first | exact Or.inl rfl | exact Or.inr rfl) (de_lst (da_cons (de_call ((ok_rings T).mono (by decide)) hr (by rfl) T.g_rings T.F_rings.kp T.b_rings (da_cons (dv 0) da_nil)) (da_cons (de_call ((ok_blocks T).mono (by decide)) hr (by rfl) T.g_blocks T.F_blocks.kp T.b_blocks (da_cons (dv 0) da_nil)) (da_cons (de_call ((ok_all_trees T).mono (by decide)) hr (by rfl) T.g_all_trees T.F_all_trees.kp T.b_all_trees (da_cons (dv 0) da_nil)) (da_cons (de_call ((ok_table T).mono (by decide)) hr (by rfl) T.g_table T.F_table.kp T.b_table (da_cons (dv 0) da_nil)) da_nil))))))
      (dss_one (ds_ret (de_cmp (op_eqA hr.units) sim_eq (dv 2) (de_lst (da_cons (de_call ((ok_rings T).mono (by decide)) hr (by rfl) T.g_rings T.F_rings.kp T.b_rings (da_cons (dv 1) da_nil)) (da_cons (de_call ((ok_blocks T).mono (by decide)) hr (by rfl) T.g_blocks T.F_blocks.kp T.b_blocks (da_cons (dv 1) da_nil)) (da_cons (de_call ((ok_all_trees T).mono (by decide)) hr (by rfl) T.g_all_trees T.F_all_trees.kp T.b_all_trees (da_cons (dv 1) da_nil)) (da_cons (de_call ((ok_table T).mono (by decide)) hr (by rfl) T.g_table T.F_table.kp T.b_table (da_cons (dv 1) da_nil)) da_nil))))) (nomark _))))), fun ds μ R h => ?_⟩
  · obtain ⟨p, q, m, ts, rfl, _⟩ := h
    rfl
  · obtain ⟨p, q, m, ts, rfl, op, ot, few, ol, lq, pm, asc, h⟩ := h
    have un : p.Pairwise (· ≠ ·) := op.asc.imp fun h => Nat.ne_of_lt h
    have uq : q.Pairwise (· ≠ ·) := ol.1
    have om := named_places op ol lq pm asc
    have um : m.Pairwise (· ≠ ·) := om.asc.imp fun h => Nat.ne_of_lt h
    have otm : OkT m (ts.map (nameT p q)) := name_okT lq pm ot
    have l2 : (ts.map (nameT p q)).length = ts.length := List.length_map _
    have okp : OkWeb p ts := ot.web op few
    have okm : OkWeb m (ts.map (nameT p q)) := otm.web om (by omega)
    have sm_ : ∀ c ∈ q, c < 1000 := fun c hc => by have := (ol.2.2 c hc).2; omega
    refine ⟨p, ts, rfl, okp, fun r1 h1 => ?_⟩
    refine ⟨p, ts, rfl, okp, un, fun f1 g1 => ?_⟩
    refine ⟨p, ts, rfl, okp, fun o1 t1 => ?_⟩
    refine ⟨p, ts, rfl, okp, un, ?_⟩
    refine ⟨by show 4 ≤ sizeLine; decide, ?_⟩
    refine ⟨m, ts.map (nameT p q), rfl, okm, fun r2 h2 => ?_⟩
    refine ⟨m, ts.map (nameT p q), rfl, okm, um, fun f2 g2 => ?_⟩
    refine ⟨m, ts.map (nameT p q), rfl, okm, fun o2 t2 => ?_⟩
    refine ⟨m, ts.map (nameT p q), rfl, okm, um, ?_⟩
    refine ⟨by show 4 ≤ sizeLine; decide, ?_⟩
    have er : r2 = r1 := by
      refine Listed.one ⟨?_, h2.asc⟩ h1
      have := h2.perm
      rwa [rings_named un uq lq pm sm_ ot] at this
    have eb : blocksF (ts.map (nameT p q)).length f2 = blocksF ts.length f1 := by
      rw [l2]
      exact blocks_one (marks_named un uq lq pm sm_ ot g2) g1
    have eo : o2 = o1 := by
      obtain ⟨a1, a2⟩ := t1
      obtain ⟨b1, b2⟩ := (trees_named un uq lq pm sm_ ot).mp t2
      exact (b1.trans a1.symm).eq_of_pairwise (fun _ _ _ _ a b => ltN_anti _ _ b a) b2 a2
    have et : tabI m (ts.map (nameT p q)) = tabI p ts := by
      unfold tabI
      rw [full_named un uq lq pm sm_ ot, l2]
      have : (fun a b => ((cnt (rankOf m (ts.map (nameT p q))) ts.length a b : Nat) : Int)) = fun a b => ((cnt (rankOf p ts) ts.length a b : Nat) : Int) := by
        funext a b
        rw [cnt_named un uq lq pm sm_ ot]
      rw [this]
    rw [er, eb, eo, et]
    exact lst_sameE (layL_cons (lay_lots _) (layL_cons (lay_lots _) (layL_cons (lay_lots _) (layL_cons (lay_tup (layL_map fun r _ => lay_tup (layL_ints r 0))) (layL_nil 2))))) (by decide) h
end
end K10
set_option Elab.async false
set_option linter.all false
set_option maxRecDepth 100000
namespace DL
open PySem PySem.Spec PyProof.Rows L2
/-! ### list.index of texts -/
def gLIndexS : G2 := fun x y μ R => ∃ (ss : List Str) (k : Str), x = .lst (ss.map D.str) ∧ y = .str k ∧ k ∈ ss ∧ R (.int (ss.idxOf k : Nat)) μ
theorem idx_notS {ns : List Str} {k : Str} : ∀ {m : Nat} {z : Str}, m < ns.idxOf k → ns[m]? = some z → z ≠ k := by
  induction ns with
  | nil => intro m z h1 h2; cases h2
  | cons n ns ih =>
    intro m z h1 h2
    rw [List.idxOf_cons] at h1
    by_cases e : n = k
    · rw [show (n == k) = true from beq_iff_eq.mpr e] at h1
      exact absurd h1 (Nat.not_lt_zero _)
    · rw [show (n == k) = false from beq_eq_false_iff_ne.mpr e] at h1
      cases m with
      | zero =>
        rw [List.getElem?_cons_zero] at h2
        cases h2
        exact e
      | succ m =>
        rw [List.getElem?_cons_succ] at h2
        have h1 : m + 1 < ns.idxOf k + 1 := h1
        exact ih (by omega) h2
theorem sim_lindexS {K : PySem.W.Frag} : SimM K (rIndex K) (gM1 gLIndexS) := sim_m1 fun x v dx d H μ Q R rm rx rv q f => by
  obtain ⟨ns, k, rfl, rfl, hk, q⟩ := q
  obtain ⟨a, vs, rfl, i, _, l⟩ := rep_lst rx
  have hl : ns.idxOf k < ns.length := List.idxOf_lt_length_of_mem hk
  refine ⟨a, ns.map V.str, .str k, ns.idxOf k, .str k, rfl, by rw [rep_str rv], by rw [← l.strs]; exact SqL.of i, rfl, flat_strs ns, ?_, ?_, fun m z hm hz => ?_, fw_now rm to_int q f⟩
  · rw [List.getElem?_map, List.getElem?_eq_getElem hl, List.getElem_idxOf hl]
    rfl
  · show (k == k) = true
    exact beq_self_eq_true k
  · rw [List.getElem?_map] at hz
    cases e : ns[m]? with
    | none => rw [e] at hz; cases hz
    | some y =>
      rw [e] at hz
      cases hz
      show (y == k) = false
      exact beq_eq_false_iff_ne.mpr (idx_notS hm e)
end DL
set_option Elab.async false
set_option linter.all false
set_option maxRecDepth 100000
namespace K10
open PySem PySem.Spec PyProof.Rows L2 DL
section
variable {P : Program} {w : World} {K : PySem.W.Frag} {mg : Str → Option Value} {base : Heap} {A : Ad}
/-! ### a web of the law -/
def g_L_rightC : GC := fun ds μ R => ∃ (a : Addr) (x y z : Int), ds = [.adr a] ∧ μ a = some (pot x y z) ∧ ∀ x y z, R (.bl true) (put μ a (pot x y z))
theorem eqv_strs : ∀ us vs : List Str, PyData.eqvAll (us.map PyData.str) (vs.map PyData.str) = decide (us = vs)
  | [], [] => by simp [PyData.eqvAll]
  | [], v :: vs => by simp [PyData.eqvAll]
  | u :: us, [] => by simp [PyData.eqvAll]
  | u :: us, v :: vs => by
    rw [List.map_cons, List.map_cons]
    unfold PyData.eqvAll
    rw [eqv_strs us vs]
    unfold PyData.eqv
    by_cases e1 : u = v <;> by_cases e2 : us = vs <;> simp [e1, e2]
theorem okT_perm {m : List Nat} {us ts : List Str} (h : us.Perm ts) (ot : OkT m ts) : OkT m us := ⟨fun y hy => ot.ties y (h.subset hy)⟩
theorem cmp_strs {m r : List Nat} {us vs : List Str} (om : OkPlaces m) (hu : OkT m us) (or_ : OkPlaces r) (hv : OkT r vs) {μ : Mu} {R : KD} (q : R (.bl (decide (us = vs))) μ) : gEq (.lst (us.map D.str)) (.lst (vs.map D.str)) μ R := by
  refine (lay_lst (lay_tie om hu 0)).cmp (lay_lst (lay_tie or_ hv 0)) (k := id) (by decide) (by decide) ?_
  have e : PyData.eqv (.list (us.map PyData.str)) (.list (vs.map PyData.str)) = decide (us = vs) := by
    unfold PyData.eqv
    exact eqv_strs us vs
  rw [e]
  exact q
theorem lay_page {p : List Nat} {ts : List Str} (op : OkPlaces p) (ot : OkT p ts) {q : List Nat} (hq : q.Perm (firstP p)) : Lay (.str (pageP p ts q)) (.str (pageP p ts q)) 0 := by
  refine lay_str ?_ 0
  rw [Array.all_eq_true']
  intro c hc
  refine decide_eq_true ?_
  have hc : c ∈ (pageP p ts q).cps.toList := Array.mem_toList_iff.mpr hc
  have e : (pageP p ts q).cps.toList = pgC (firstP p) (srt (ts.map (nameT p q))) := toS_list _
  rw [e] at hc
  unfold pgC at hc
  have small : ∀ d ∈ firstP p, d < 200 := fun d hd => by
    unfold firstP at hd
    obtain ⟨i, hi, rfl⟩ := List.mem_map.mp hd
    have := List.mem_range.mp hi
    have := op.few
    omega
  rcases List.mem_append.mp hc with z | z
  · have := small c z
    omega
  · obtain ⟨y, hy, hz⟩ := List.mem_flatMap.mp z
    have lq : q.length = p.length := by rw [hq.length_eq, first_len]
    obtain ⟨d, e, rfl, hd, he, _⟩ := (name_okT lq hq.symm ot).ties y ((srt_perm _).subset hy)
    have h1 := small d hd
    have h2 := small e he
    have hz : c ∈ [32, d, e] := hz
    simp at hz
    omega
theorem min_pages {p : List Nat} {ts : List Str} (op : OkPlaces p) (ot : OkT p ts) {R : D → Prop} (h : ∀ t, IsPlain p ts t → R (.str t)) : DL.minDs ((ordN (firstP p) (firstP p).length).map fun q => .str (pageP p ts q)) R := by
  obtain ⟨O, hO⟩ : ∃ O, O = ordN (firstP p) (firstP p).length := ⟨_, rfl⟩
  rw [← hO]
  have memO : ∀ q, q ∈ O ↔ q.Perm (firstP p) := fun q => by rw [hO]; exact ord_perm (first_nodup p)
  have ly : LayL (O.map fun q => .str (pageP p ts q)) (O.map fun q => PyData.str (pageP p ts q)) 0 := layL_map fun q hq => lay_page op ot ((memO q).mp hq)
  refine ⟨_, ly.py, ⟨fun x hx y hy => ?_, fun x hx => ?_⟩, Nat.le_trans ly.dep (by decide), ?_, ?_⟩
  · obtain ⟨q, _, rfl⟩ := List.mem_map.mp hx
    obtain ⟨r, _, rfl⟩ := List.mem_map.mp hy
    rfl
  · obtain ⟨q, _, rfl⟩ := List.mem_map.mp hx
    intro z
    cases z
  · intro z
    have := List.map_eq_nil_iff.mp z
    have h1 := (memO (firstP p)).mpr (.refl _)
    rw [this] at h1
    cases h1
  · intro p0 pr e i d hd hm
    rw [List.getElem?_map] at hd
    obtain ⟨q, hq, rfl⟩ : ∃ q, O[i]? = some q ∧ D.str (pageP p ts q) = d := by
      cases q : O[i]? with
      | none => rw [q] at hd; cases hd
      | some k => rw [q] at hd; exact ⟨k, rfl, Option.some.inj hd⟩
    have qO := List.mem_of_getElem? hq
    rw [(lay_page op ot ((memO q).mp qO)).py] at hm
    have hm := Option.some.inj hm
    obtain ⟨least, _⟩ := minD_least pr p0
    refine h _ ⟨⟨q, (memO q).mp qO, rfl⟩, fun r hr => ?_⟩
    have rO := (memO r).mpr hr
    have hin : PyData.str (pageP p ts r) = p0 ∨ PyData.str (pageP p ts r) ∈ pr := by
      have : PyData.str (pageP p ts r) ∈ p0 :: pr := by rw [← e]; exact List.mem_map.mpr ⟨r, rO, rfl⟩
      exact List.mem_cons.mp this
    have l1 := least _ hin
    rw [← hm, PySem.W.dataLt_str] at l1
    exact of_decide_eq_false l1
theorem idx_sg (c : Nat) : ∀ m : List Nat, (m.map sg).idxOf (sg c) = m.idxOf c
  | [] => rfl
  | d :: m => by
    rw [List.map_cons, List.idxOf_cons, List.idxOf_cons, idx_sg c m]
    by_cases e : d = c
    · subst e
      rw [beq_self_eq_true, beq_self_eq_true]
    · rw [beq_eq_false_iff_ne.mpr e, beq_eq_false_iff_ne.mpr fun z => e (sg_inj z)]
def N68 : List Str := ["_law_cask_here", "_law_net_here", "_law_mine", "_law_size", "_law_signs", "_law_own", "_law_every", "_law_first", "_law_pages", "_law_turn", "_law_more", "_law_k", "_law_again", "_law_both", "_law_sign"]
theorem sc68 : FnScope N68 ["_law_cask_here"] (defScope (top 68)) := ⟨rfl, rfl, rfl, by decide +kernel, rfl, by decide +kernel, by decide +kernel⟩
theorem ok_L_right (T : Tx K mg A) : FnOk P w K mg base CX0 11 A.L_right A.fd_L_right ["_law_cask_here"] (toSp K (g_L_rightC)) := by
  refine okDF T.F_L_right sc68 (fun ds μ R h => ?_) ⟨_, fun cdv A0 outer s H E hr =>
    (dss_cons (ds_set sc68.nd (i := 1) rfl (by first | exact Or.inl rfl | exact Or.inr rfl) (de_call ((ok_L_net T).mono (by decide)) hr (by rfl) T.g_L_net T.F_L_net.kp T.b_L_net (da_cons (dv 0) (da_cons de_int (da_cons de_int da_nil)))))
      (dss_cons (ds_par (i := 2) (j := 3) (by rfl) sc68.nd rfl rfl (by decide) rfl rfl (da_cons (de_make T.m_Web ((ok_Web_init T).mono (by decide)) hr (by rfl) T.g_Web T.b_Web_init (da_cons (de_ix ix_any sim_ix (dv 1) de_int (fun _ _ => rfl)) (da_cons (de_callTy call_tuple_of sim_tuple (by rfl) T.z_tuple boot_tuple (da_cons (de_ix ix_any sim_ix (dv 1) de_int (fun _ _ => rfl)) da_nil)) da_nil))) (da_cons (de_callB cr_len sim_len (by rfl) T.z_len boot_len (da_cons (de_ix ix_any sim_ix (dv 1) de_int (fun _ _ => rfl)) da_nil)) da_nil)) (by rfl))
      (dss_cons (ds_setLc (i := 5) (own := [("_law_signs", 4)]) (by rfl) sc68.nd rfl rfl (sw_true rfl rfl rfl (by decide +kernel)) (di_both (de_call ((ok_L_orders T).mono (by decide)) hr (by rfl) T.g_L_orders T.F_L_orders.kp T.b_L_orders (da_cons (de_ix ix_any sim_ix (dv 1) de_int (fun _ _ => rfl)) da_nil))) (blkOk_by (N := N68) (own := [("_law_signs", 4)]) (sc := defScope (top 68)) (by decide +kernel)) (fun _ _ _ _ _ => (pg_name (i := 4) sc68.nd rfl (by first | exact Or.inl rfl | exact Or.inr rfl))) (sim_nm (i := 4)) (fun _ _ _ _ _ => (dts_one (dt_cmp (op_eqA hr.units) sim_eq (de_callB cr_sortedS sim_sortedS (by rfl) T.z_sorted boot_sorted (da_cons (de_ix ix_any sim_ix (de_call ((ok_L_by T).mono (by decide)) hr (by rfl) T.g_L_by T.F_L_by.kp T.b_L_by (da_cons (dv 1) (da_cons (dv 4) da_nil))) de_int (fun _ _ => rfl)) da_nil)) (de_callB cr_sortedS sim_sortedS (by rfl) T.z_sorted boot_sorted (da_cons (de_ix ix_any sim_ix (dv 1) de_int (fun _ _ => rfl)) da_nil)) (nomark _)))) (fun _ _ _ _ _ => (dv 4)))
      (dss_cons (ds_set sc68.nd (i := 6) rfl (by first | exact Or.inl rfl | exact Or.inr rfl) (de_call ((ok_L_orders T).mono (by decide)) hr (by rfl) T.g_L_orders T.F_L_orders.kp T.b_L_orders (da_cons (de_ix ix_any sim_ix (dv 1) de_int (fun _ _ => rfl)) da_nil)))
      (dss_cons (ds_if (dw_or (dt_cmp (op_neA hr.units) sim_ne (de_call ((ok_count_renamings T).mono (by decide)) hr (by rfl) T.g_count_renamings T.F_count_renamings.kp T.b_count_renamings (da_cons (dv 2) da_nil)) (de_callB cr_len sim_len (by rfl) T.z_len boot_len (da_cons (dv 5) da_nil)) (nomark _)) (dw_or1 (dt_cmp (op_neA hr.units) sim_ne (de_callK0 (gD := id) ((ok_count_renamings T).mono (by decide)) hr (by rfl) T.g_count_renamings T.F_count_renamings.kp T.kb_count_renamings (fun H μ ds vs h _ => by exact h) (dk_cons (dv 2) dk_nil)) (de_callB cr_len sim_len (by rfl) T.z_len boot_len (da_cons (dv 5) da_nil)) (nomark _)))).dt (dss_one (ds_ret de_bl)) dss_nil)
      (dss_cons (ds_if (dt_cmp (op_neA hr.units) sim_ne (de_op op_mul sim_mul (de_op op_fdivN sim_fdiv (de_callB cr_len sim_len (by rfl) T.z_len boot_len (da_cons (dv 6) da_nil)) (de_callB cr_len sim_len (by rfl) T.z_len boot_len (da_cons (dv 5) da_nil))) (de_callB cr_len sim_len (by rfl) T.z_len boot_len (da_cons (dv 5) da_nil))) (de_callB cr_len sim_len (by rfl) T.z_len boot_len (da_cons (dv 6) da_nil)) (nomark _)) (dss_one (ds_ret de_bl)) dss_nil)
      (dss_cons (ds_set sc68.nd (i := 7) rfl (by first | exact Or.inl rfl | exact Or.inr rfl) (de_slice de_str dp_none (dp_some (dv 3))))
      (dss_cons (ds_setLc (i := 8) (own := [("_law_signs", 4)]) (by rfl) sc68.nd rfl rfl (sw_true rfl rfl rfl (by decide +kernel)) (di_both (de_call ((ok_L_orders T).mono (by decide)) hr (by rfl) T.g_L_orders T.F_L_orders.kp T.b_L_orders (da_cons (dv 7) da_nil))) (blkOk_by (N := N68) (own := [("_law_signs", 4)]) (sc := defScope (top 68)) (by decide +kernel)) (fun _ _ _ _ _ => (pg_name (i := 4) sc68.nd rfl (by first | exact Or.inl rfl | exact Or.inr rfl))) (sim_nm (i := 4)) (fun _ _ _ _ _ => dts_nil) (fun _ _ _ _ _ => (de_bm PySem.F.plainAttrs_str PySem.F.slot_str_join PySem.F.type_str_join mt_join sim_join ok_str de_str (da_cons (de_op op_plus sim_plus (de_lst (da_cons (dv 7) da_nil)) (de_callB cr_sortedS sim_sortedS (by rfl) T.z_sorted boot_sorted (da_cons (de_ix ix_any sim_ix (de_call ((ok_L_by T).mono (by decide)) hr (by rfl) T.g_L_by T.F_L_by.kp T.b_L_by (da_cons (dv 1) (da_cons (dv 4) da_nil))) de_int (fun _ _ => rfl)) da_nil))) da_nil))))
      (dss_cons (ds_if (dw_or (dt_cmp (op_neA hr.units) sim_ne (de_call ((ok_plain_text T).mono (by decide)) hr (by rfl) T.g_plain_text T.F_plain_text.kp T.b_plain_text (da_cons (dv 2) da_nil)) (de_callB (cr_minD (by rfl) hr.units) sim_minD (by rfl) T.z_min boot_min (da_cons (dv 8) da_nil)) (nomark _)) (dw_or1 (dt_cmp (op_neA hr.units) sim_ne (de_callK0 (gD := id) ((ok_plain_text T).mono (by decide)) hr (by rfl) T.g_plain_text T.F_plain_text.kp T.kb_plain_text (fun H μ ds vs h _ => by exact h) (dk_cons (dv 2) dk_nil)) (de_callB (cr_minD (by rfl) hr.units) sim_minD (by rfl) T.z_min boot_min (da_cons (dv 8) da_nil)) (nomark _)))).dt (dss_one (ds_ret de_bl)) dss_nil)
      (dss_cons (ds_for PassesOwn.never rfl (di_range (by rfl) T.z_range (da_cons de_int da_nil)) (pg_name (i := 9) sc68.nd rfl (by first | exact Or.inl rfl | exact Or.inr rfl)) (sim_nm (i := 9))
      (dss_cons (ds_asg (de_tup (da_cons de_str (da_cons (de_callTy (call_listS (by rfl)) sim_listSC (by rfl) T.z_list boot_list (da_cons de_str da_nil)) da_nil))) (pg_tup (n := 2) (by rfl) (pgs_cons (pg_name (i := 4) sc68.nd rfl (by first | exact Or.inl rfl | exact Or.inr rfl)) (pgs_cons (pg_name (i := 10) sc68.nd rfl (by first | exact Or.inl rfl | exact Or.inr rfl)) pgs_nil))) (sim_tupT (n := 2) (sim_consT (sim_nm (i := 4)) (sim_consT (sim_nm (i := 10)) sim_nilT))))
      (dss_cons (ds_for PassesOwn.never rfl (di_range (by rfl) T.z_range (da_cons (dv 3) da_nil)) (pg_name (i := 11) sc68.nd rfl (by first | exact Or.inl rfl | exact Or.inr rfl)) (sim_nm (i := 11))
      (dss_one (ds_set sc68.nd (i := 4) rfl (by first | exact Or.inl rfl | exact Or.inr rfl) (de_op op_plus sim_plus (dv 4) (de_bm PySem.F.plainAttrs_list PySem.F.slot_list_pop PySem.F.type_list_pop mt_popAt sim_popAt ok_cell (dv 10) (da_cons (de_call ((ok_L_tap T).mono (by decide)) hr (by rfl) T.g_L_tap T.F_L_tap.kp T.b_L_tap (da_cons (dv 0) (da_cons (de_callB cr_len sim_lenC (by rfl) T.z_len boot_len (da_cons (dv 10) da_nil)) da_nil))) da_nil))))))
      (dss_cons (ds_if (dw_or (dt_not (dt_val (de_call ((ok_L_single_right T).mono (by decide)) hr (by rfl) T.g_L_single_right T.F_L_single_right.kp T.b_L_single_right (da_cons (dv 2) (da_cons (dv 1) (da_cons (dv 4) da_nil)))))) (dw_or1 (dt_not (dt_val (de_call ((ok_L_stays T).mono (by decide)) hr (by rfl) T.g_L_stays T.F_L_stays.kp T.b_L_stays (da_cons (dv 2) (da_cons (de_call ((ok_renamed T).mono (by decide)) hr (by rfl) T.g_renamed T.F_renamed.kp T.b_renamed (da_cons (dv 2) (da_cons (dv 4) da_nil))) da_nil))))))).dt (dss_one (ds_ret de_bl)) dss_nil)
      (dss_cons (ds_set sc68.nd (i := 12) rfl (by first | exact Or.inl rfl | exact Or.inr rfl) (de_call ((ok_L_pick T).mono (by decide)) hr (by rfl) T.g_L_pick T.F_L_pick.kp T.b_L_pick (da_cons (dv 0) (da_cons (dv 6) da_nil))))
      (dss_cons (ds_set sc68.nd (i := 13) rfl (by first | exact Or.inl rfl | exact Or.inr rfl) (de_bm PySem.F.plainAttrs_str PySem.F.slot_str_join PySem.F.type_str_join mt_join sim_join ok_str de_str (da_cons (de_lc (own := [("_law_sign", 14)]) (by rfl) sc68.nd (di_str (dv 4)) (blkOk_by (N := N68) (own := [("_law_sign", 14)]) (sc := defScope (top 68)) (by decide +kernel)) (fun _ _ _ _ _ => (pg_name (i := 14) sc68.nd rfl (by first | exact Or.inl rfl | exact Or.inr rfl))) (sim_nm (i := 14)) (fun _ _ _ _ _ => dts_nil) (fun _ _ _ _ _ => (de_ix ix_any sim_ix (dv 12) (de_bm PySem.F.plainAttrs_list PySem.F.slot_list_index PySem.F.type_list_index mt_index sim_lindexS ok_lst (de_callB (DL.cr_sortedT (by rfl)) sim_sortedT (by rfl) T.z_sorted boot_sorted (da_cons (dv 4) da_nil)) (da_cons (dv 14) da_nil)) (fun _ _ => rfl)))) da_nil)))
      (dss_one (ds_if (dt_cmp (op_neI ((ok_Web_eq T).mono (by decide)) hr T.b_Web_eq rfl T.ne_Web T.s_Web_eq T.f_Web_eq (by exact T.ob_Web)) sim_neI (de_call ((ok_renamed T).mono (by decide)) hr (by rfl) T.g_renamed T.F_renamed.kp T.b_renamed (da_cons (de_call ((ok_renamed T).mono (by decide)) hr (by rfl) T.g_renamed T.F_renamed.kp T.b_renamed (da_cons (dv 2) (da_cons (dv 4) da_nil))) (da_cons (dv 12) da_nil))) (de_call ((ok_renamed T).mono (by decide)) hr (by rfl) T.g_renamed T.F_renamed.kp T.b_renamed (da_cons (dv 2) (da_cons (dv 13) da_nil))) (nomark _)) (dss_one (ds_ret de_bl)) dss_nil))))))))
      (dss_one (ds_ret (de_call ((ok_L_single_right T).mono (by decide)) hr (by rfl) T.g_L_single_right T.F_L_single_right.kp T.b_L_single_right (da_cons (dv 2) (da_cons (dv 1) (da_cons (de_call ((ok_L_pick T).mono (by decide)) hr (by rfl) T.g_L_pick T.F_L_pick.kp T.b_L_pick (da_cons (dv 0) (da_cons (dv 5) da_nil))) da_nil)))))))))))))))), fun ds μ R h => ?_⟩
  · obtain ⟨a, x, y, z, rfl, _⟩ := h
    rfl
  · obtain ⟨a, x, y, z, rfl, ha, h⟩ := h
    have s0 : Sa μ μ a := ⟨fun c o _ e => e, ⟨x, y, z, ha⟩⟩
    refine ⟨a, x, y, z, 4, 5, rfl, ha, by omega, by omega, by omega, fun p ts x y z op ot p4 t5 => ?_⟩
    have few : ts.length ≤ 11 := by omega
    have s1 := s0.draw x y z
    generalize put μ a (pot x y z) = μ1 at s1 ⊢
    refine fun b nb => ?_
    refine ⟨b, p, ts, rfl, op, ot.ok few, put_same, ?_⟩
    refine ⟨_, put_same, ?_⟩
    rw [put_put, del_put nb]
    have un : p.Nodup := op.asc.imp fun h => Nat.ne_of_lt h
    have zp : (toS p).length ≤ sizeLine := by rw [toS_size, sizeLine_eq]; omega
    have same : ∀ x : Int, (!decide (x = x)) = false := fun x => by simp
    refine ⟨zp, ?_⟩
    refine ⟨p, rfl, p4, ?_⟩
    have many : ∀ s : List Nat, s.length ≤ 4 → (ordN s s.length).length ≤ 256 := fun s hs => Nat.le_trans (ord_few hs _) (Nat.le_trans (Nat.pow_le_pow_right (by decide) hs) (by decide))
    have mp := many p p4
    have byOk : ∀ q : List Nat, q.length = p.length → ∃ m : List Nat, m.Perm q ∧ m.Pairwise (· ≤ ·) := fun q _ => sort_nat q
    show LcB _ _ _ _ _ _ _ _
    refine lcb_pure (fun d => keepsB p ts (unT d)) id (by rw [List.length_map, sizeLine_eq]; omega) ?_ ?_
    · intro d hd ν N Y kp hN hY
      obtain ⟨w, hw, rfl⟩ := List.mem_map.mp hd
      have pw := (ord_perm un).mp hw
      rw [unT_toS] at hN hY
      have lw := pw.length_eq
      have otw : OkT p (ts.map (nameT p w)) := name_okT lw pw.symm ot
      refine ⟨p, w, p, ts, rfl, op, ot, few, lw, pw.symm, op.asc.imp Nat.le_of_lt, ?_⟩
      refine ⟨ts.map (nameT p w), rfl, by rw [List.length_map]; omega, fun ys h1 h2 => ?_⟩
      refine ⟨ts, rfl, by omega, fun zs g1 g2 => ?_⟩
      have e1 : decide (ys = zs) = keepsB p ts w := by
        unfold keepsB
        refine decide_eq_decide.mpr ?_
        rw [srt_of h1 h2, srt_of g1 g2]
        exact srt_iff
      refine cmp_strs op (okT_perm h1 otw) op (okT_perm g1 ot) ?_
      rw [e1]
      exact if_case (c := keepsB p ts w) (fun z => hY z) (fun z => hN z)
    have eo : ((ordN p p.length).map fun w => D.str (toS w)).filter (fun d => keepsB p ts (unT d)) = ((ordN p p.length).filter (keepsB p ts)).map fun w => D.str (toS w) := by
      rw [List.filter_map]
      have c : ((fun d => keepsB p ts (unT d)) ∘ fun w => D.str (toS w)) = keepsB p ts := by
        funext w
        show keepsB p ts (unT (.str (toS w))) = _
        rw [unT_toS]
      rw [c]
    rw [List.map_id, eo]
    obtain ⟨own, hown⟩ : ∃ own, own = (ordN p p.length).filter (keepsB p ts) := ⟨_, rfl⟩
    have lown : own.length = ownN p ts := by rw [hown]; rfl
    rw [← hown]
    refine ⟨p, rfl, p4, ?_⟩
    refine ⟨p, ts, rfl, op, ot, few, p4, ?_⟩
    have el : ((((own.map fun w => D.str (toS w)).length : Nat) : Int)) = ((ownN p ts : Nat) : Int) := by rw [List.length_map, lown]
    have ev : ((((ordN p p.length).map fun w => D.str (toS w)).length : Nat) : Int) = (((ordN p p.length).length : Nat) : Int) := by rw [List.length_map]
    refine if_case (c := !decide (((ownN p ts : Nat) : Int) = (((own.map fun w => D.str (toS w)).length : Nat) : Int))) (fun z => by rw [el, same] at z; cases z) (fun _ => ?_)
    refine ⟨rfl, p, ts, rfl, op, ot, few, p4, ?_⟩
    refine if_case (c := !decide (((ownN p ts : Nat) : Int) = (((own.map fun w => D.str (toS w)).length : Nat) : Int))) (fun z => by rw [el, same] at z; cases z) (fun _ => ?_)
    have pos := own_pos un ot
    have dv := own_dvd un ot
    have ed : ∀ x : Int, x = ((ownN p ts : Nat) : Int) → ∀ y : Int, y = (((ordN p p.length).length : Nat) : Int) → (!decide (y.fdiv x * x = y)) = false := fun x hx y hy => by
      subst hx hy
      obtain ⟨k, hk⟩ := dv
      have : (((ordN p p.length).length : Nat) : Int) = ((ownN p ts : Nat) : Int) * ((k : Nat) : Int) := by rw [hk]; exact Int.natCast_mul _ _
      have e : ((((ordN p p.length).length : Nat) : Int)).fdiv ((ownN p ts : Nat) : Int) * ((ownN p ts : Nat) : Int) = (((ordN p p.length).length : Nat) : Int) := Int.fdiv_mul_cancel (by rw [this]; exact Int.dvd_mul_right _ _)
      rw [e]
      simp
    have own_le : ownN p ts ≤ 256 := Nat.le_trans (List.length_filter_le _ _) mp
    have dvI : ∀ x : Int, x = ((ownN p ts : Nat) : Int) → ∀ y : Int, y = (((ordN p p.length).length : Nat) : Int) → CDivN y x ∧ CMul (y.fdiv x) x := fun x hx y hy => by
      subst hx hy
      exact ⟨⟨by omega, by rw [Int.natAbs_natCast]; omega⟩, .inr ⟨by omega, by omega⟩⟩
    refine ⟨(dvI _ el _ ev).1, ?_⟩
    refine ⟨(dvI _ el _ ev).2, ?_⟩
    refine if_case (c := !decide (((((ordN p p.length).map fun w => D.str (toS w)).length : Nat) : Int).fdiv (((own.map fun w => D.str (toS w)).length : Nat) : Int) * (((own.map fun w => D.str (toS w)).length : Nat) : Int) = ((((ordN p p.length).map fun w => D.str (toS w)).length : Nat) : Int))) (fun z => by rw [ed _ el _ ev] at z; cases z) (fun _ => ?_)
    refine ⟨by decide +kernel, ?_⟩
    rw [toS_size, first_cut (by omega)]
    have lf := first_len p
    refine ⟨firstP p, rfl, by omega, ?_⟩
    have mf := many (firstP p) (by omega)
    show LcB _ _ _ _ _ _ _ _
    refine lcb_map (fun d => .str (pageP p ts (unT d))) (by rw [List.length_map, sizeLine_eq]; omega) ?_ ?_
    · intro d hd ν Y kp hY
      obtain ⟨q, hq, rfl⟩ := List.mem_map.mp hd
      have pq := (ord_perm (first_nodup p)).mp hq
      obtain ⟨m, pm, sm⟩ := sort_nat q
      have lq : q.length = p.length := by rw [pq.length_eq, lf]
      have otq : OkT m (ts.map (nameT p q)) := name_okT lq pm ot
      refine ⟨True.intro, ?_⟩
      refine ⟨by show 1 ≤ sizeLine; decide, ?_⟩
      refine ⟨p, q, m, ts, rfl, op, ot, few, lq, pm, sm, ?_⟩
      refine ⟨ts.map (nameT p q), rfl, by rw [List.length_map]; omega, fun ys h1 h2 => ?_⟩
      have ly : ys.length = ts.length := by rw [h1.length_eq, List.length_map]
      refine ⟨by show 1 + (ys.map D.str).length ≤ sizeLine; rw [List.length_map, sizeLine_eq]; omega, ?_⟩
      refine ⟨toS (firstP p) :: ys, rfl, page_fits (by omega) (by omega) (okT_two (okT_perm h1 otq)), ?_⟩
      rw [join_page, srt_of h1 h2]
      have e : D.str (pageP p ts (unT (.str (toS q)))) = .str (pgS (firstP p) (srt (ts.map (nameT p q)))) := by
        rw [unT_toS]
        rfl
      rw [e] at hY
      exact hY
    have epg : ((ordN (firstP p) (firstP p).length).map fun w => D.str (toS w)).map (fun d => D.str (pageP p ts (unT d))) = (ordN (firstP p) (firstP p).length).map fun q => .str (pageP p ts q) := by
      rw [List.map_map]
      refine List.map_congr_left fun q _ => ?_
      show D.str (pageP p ts (unT (.str (toS q)))) = _
      rw [unT_toS]
    rw [epg]
    refine ⟨p, ts, rfl, op, ot, few, p4, fun t ht => ?_⟩
    refine min_pages op ot fun t2 ht2 => ?_
    have et := ht.only ht2
    refine if_case (c := !decide (t = t2)) (fun z => by rw [et, decide_eq_true rfl] at z; cases z) (fun _ => ?_)
    refine ⟨rfl, p, ts, rfl, op, ot, few, p4, fun t ht => ?_⟩
    refine min_pages op ot fun t2 ht2 => ?_
    have et := ht.only ht2
    refine if_case (c := !decide (t = t2)) (fun z => by rw [et, decide_eq_true rfl] at z; cases z) (fun _ => ?_)
    refine ⟨⟨by decide, by decide⟩, ?_⟩
    have sl8 : ("abcdefgh" : Str).length ≤ sizeLine := by
      have e : ("abcdefgh" : Str).length = 8 := by decide +kernel
      rw [e, sizeLine_eq]
      omega
    refine ⟨fun i δ' μ' => Sa μ μ' a ∧ ∃ o4 o9 o10 o11 o12 o13 : Option D, δ' = [some (.adr a), some (dNet p ts), some (dWeb A.Web p ts), some (.int (p.length : Nat)), o4, some (.lst (own.map fun w => .str (toS w))), some (.lst ((ordN p p.length).map fun w => .str (toS w))), some (.str (toS (firstP p))), some (.lst ((ordN (firstP p) (firstP p).length).map fun q => .str (pageP p ts q))), o9, o10, o11, o12, o13, none], ⟨s1, none, none, none, none, none, none, rfl⟩, ?_, ?_⟩
    · rintro i0 it0 δ' μ' hi0 ⟨s, o4, o9, o10, o11, o12, o13, rfl⟩
      refine ⟨sl8, fun b1 m1' => ?_⟩
      obtain ⟨m1, e1⟩ := s.new m1'
      have s := s.cell m1 e1 (.lst (DL.signs ("abcdefgh" : Str)))
      have c1 : Sc μ (put μ' b1 (.lst (DL.signs ("abcdefgh" : Str)))) a b1 (chs eight) := ⟨by rw [put_same, eight_signs], m1, e1⟩
      generalize put μ' b1 (.lst (DL.signs ("abcdefgh" : Str))) = μ2 at s c1 ⊢
      refine ⟨by show 2 ≤ sizeLine; decide, ?_⟩
      refine ⟨rfl, ?_⟩
      refine ⟨⟨by omega, by omega⟩, ?_⟩
      have en : ((List.range ((p.length : Nat) : Int).toNat).map fun i => D.int (i : Nat)).length = p.length := by
        rw [List.length_map, List.length_range]
        omega
      have e0 : ("" : Str) = toS [] := by decide +kernel
      refine ⟨fun i δ' μ' => ∃ (pl fo : List Nat) (o11 : Option D), Sa μ μ' a ∧ Sc μ μ' a b1 (chs pl) ∧ (pl ++ fo).Perm eight ∧ fo.length = i ∧
        δ' = [some (.adr a), some (dNet p ts), some (dWeb A.Web p ts), some (.int (p.length : Nat)), some (.str (toS fo)), some (.lst (own.map fun w => .str (toS w))), some (.lst ((ordN p p.length).map fun w => .str (toS w))), some (.str (toS (firstP p))), some (.lst ((ordN (firstP p) (firstP p).length).map fun q => .str (pageP p ts q))), some it0, some (.adr b1), o11, o12, o13, none], ⟨eight, [], o11, s, c1, by rw [List.append_nil], rfl, by rw [e0]; rfl⟩, ?_, ?_⟩
      · rintro i it δ'' μ'' hi ⟨pl, fo, o11, s, k1, hp, hl, rfl⟩
        obtain ⟨hi, rfl⟩ := range_at hi
        have hi : i < p.length := by omega
        have hpl : pl.length + fo.length = 8 := by
          have := hp.length_eq
          rw [List.length_append] at this
          exact this
        refine ⟨cell_ok k1.at_, ?_⟩
        refine ⟨_, _, rfl, k1.at_, ?_⟩
        obtain ⟨px, py, pz, hpot⟩ := s.has
        have lc : (chs pl).length = pl.length := List.length_map _
        refine ⟨a, px, py, pz, _, rfl, hpot, by rw [lc]; omega, by rw [lc]; omega, fun v x y z hv => ?_⟩
        rw [lc] at hv
        have hv : v < pl.length := by omega
        have s := s.draw x y z
        have k1 := k1.draw x y z
        generalize put μ'' a (pot x y z) = μ5 at s k1 ⊢
        refine ⟨_, k1.at_, by omega, by omega, .str (sg pl[v]), ?_, ?_⟩
        · show (chs pl)[v]? = _
          unfold chs
          rw [List.getElem?_map, List.getElem?_eq_getElem hv]
          rfl
        · have ee : (chs pl).eraseIdx ((v : Int)).toNat = chs (pl.eraseIdx v) := by
            unfold chs
            rw [erase_map]
            rfl
          rw [ee]
          have s := s.cell k1.new k1.ne (.lst (chs (pl.eraseIdx v)))
          have k1 := k1.same (m := chs (pl.eraseIdx v))
          generalize put μ5 b1 (.lst (chs (pl.eraseIdx v))) = μ6 at s k1 ⊢
          refine ⟨by show (toS fo).length + 1 ≤ sizeLine; rw [toS_size, sizeLine_eq]; omega, ?_⟩
          refine ⟨pl.eraseIdx v, fo ++ [pl[v]], some (.int (i : Nat)), s, k1, ?_, by rw [List.length_append, hl]; rfl, by rw [← toS_one]; rfl⟩
          refine .trans ?_ hp
          have p1 : (pl[v] :: pl.eraseIdx v).Perm pl := erase_perm pl v hv
          refine .trans ?_ (p1.append_right fo)
          rw [← List.append_assoc]
          exact List.perm_append_comm.trans (by simp)
      · rintro δ'' μ'' ⟨pl, fo, o11, s, k1, hp, hl, rfl⟩
        rw [en] at hl
        have nod : (pl ++ fo).Nodup := hp.nodup_iff.mpr (by decide)
        have nf : fo.Nodup := (List.nodup_append.mp nod).2.1
        have olf : OkLetters fo := ⟨nf, by omega, fun c hc => by
          have : c ∈ eight := hp.subset (List.mem_append_right _ hc)
          simp [eight] at this
          omega⟩
        obtain ⟨m, pm, asc⟩ := sort_nat fo
        have om := named_places op olf hl pm asc
        have otm : OkT m (ts.map (nameT p fo)) := name_okT hl pm ot
        have l2 : (ts.map (nameT p fo)).length = ts.length := List.length_map _
        have lm : m.length = p.length := by rw [pm.length_eq, hl]
        have um : m.Pairwise (· ≠ ·) := pm.nodup_iff.mpr nf
        refine ⟨p, fo, ts, rfl, op, ot, few, p4, olf, hl, ?_⟩
        refine ⟨p, fo, m, ts, rfl, op, ot, few, olf, hl, pm, asc, ?_⟩
        refine ⟨p, fo, m, ts, rfl, op, ot, few, olf, hl, pm, asc, ?_⟩
        obtain ⟨px, py, pz, hpot⟩ := s.has
        have eve : 1 ≤ (ordN p p.length).length := List.length_pos_iff.mpr (List.ne_nil_of_mem ((ord_perm un).mpr (.refl p)))
        refine ⟨a, px, py, pz, _, rfl, hpot, by rw [List.length_map]; exact eve, by rw [List.length_map]; omega, fun d x y z hd => ?_⟩
        obtain ⟨w, hw, rfl⟩ := List.mem_map.mp hd
        have pw := (ord_perm un).mp hw
        have lw := pw.length_eq
        have uw : w.Pairwise (· ≠ ·) := pw.nodup_iff.mpr un
        have s := s.draw x y z
        generalize put μ'' a (pot x y z) = μ7 at s ⊢
        refine ⟨True.intro, ?_⟩
        show LcB _ _ _ _ _ _ _ _
        refine lcb_map (fun d => .str (sg (forL m w ((unT d).headD 0)))) (by rw [signs_toS, List.length_map, sizeLine_eq]; omega) ?_ ?_
        · intro d hd ν Y kp hY
          rw [signs_toS] at hd
          obtain ⟨c, hc, rfl⟩ := List.mem_map.mp hd
          have cm := pm.symm.subset hc
          have ci := List.idxOf_lt_length_of_mem cm
          refine ⟨by show (toS fo).length ≤ sizeLine; rw [toS_size, sizeLine_eq]; omega, fun ys hp2 hs => ?_⟩
          rw [toS_list] at hp2
          obtain ⟨ms, h1, h2, rfl⟩ := sorted_signs (f := fo) hp2 hs
          have e1 : ms = m := (h1.trans pm.symm).eq_of_pairwise (fun _ _ _ _ x y => Nat.le_antisymm x y) h2 asc
          rw [e1]
          refine ⟨True.intro, ?_⟩
          refine ⟨m.map sg, sg c, rfl, rfl, List.mem_map.mpr ⟨c, cm, rfl⟩, ?_⟩
          rw [idx_sg]
          refine ⟨by show (toS w).length ≤ sizeLine; rw [toS_size, sizeLine_eq]; omega, ?_⟩
          rw [toS_list, show L2.atI w ((m.idxOf c : Nat) : Int) = some (forL m w c) from atI_nat (by
            unfold forL
            rw [List.getD_eq_getElem?_getD, List.getElem?_eq_getElem (by omega)]
            rfl)]
          exact hY
        have eb : (DL.signs (toS fo)).map (fun d => D.str (sg (forL m w ((unT d).headD 0)))) = ((fo.map (forL m w)).map sg).map D.str := by
          rw [signs_toS, List.map_map, List.map_map, List.map_map]
          rfl
        rw [eb]
        have lwm : w.length = m.length := by omega
        have lb : (fo.map (forL m w)).length = p.length := by rw [List.length_map, hl]
        refine ⟨_, rfl, by rw [sum_sg, List.length_map]; have : ("" : Str).length = 0 := (by decide +kernel); rw [this]; omega, ?_⟩
        rw [show Txt.join ("" : Str) ((fo.map (forL m w)).map sg) = toS (fo.map (forL m w)) from join_sg _]
        have pb : (fo.map (forL m w)).Perm p := by
          have := pm.symm.map (forL m w)
          rw [map_for um lwm] at this
          exact this.trans pw
        refine ⟨p, fo, m, ts, rfl, op, ot, few, olf, hl, pm, asc, ?_⟩
        refine ⟨m, w, p, ts.map (nameT p fo), rfl, om, otm, by omega, places_letters op pw, lwm, pw.symm, op.asc.imp Nat.le_of_lt, ?_⟩
        refine ⟨p, fo.map (forL m w), p, ts, rfl, op, ot, few, places_letters op pb, lb, pb.symm, op.asc.imp Nat.le_of_lt, ?_⟩
        rw [names_then hl (okT_ends ot)]
        have ot3 : OkT p (ts.map (nameT p (fo.map (forL m w)))) := name_okT lb pb.symm ot
        refine ⟨_, _, rfl, rfl, p, _, rfl, op, ot3, true, rfl, ?_⟩
        exact ⟨s, _, _, _, _, _, _, rfl⟩
    · rintro δ' μ' ⟨s, o4, o9, o10, o11, o12, o13, rfl⟩
      obtain ⟨px, py, pz, hpot⟩ := s.has
      refine ⟨a, px, py, pz, _, rfl, hpot, by rw [List.length_map, lown]; exact pos, by rw [List.length_map, lown]; omega, fun d x y z hd => ?_⟩
      obtain ⟨w, hw, rfl⟩ := List.mem_map.mp hd
      rw [hown] at hw
      have pw := (ord_perm un).mp (List.mem_filter.mp hw).1
      have s := s.draw x y z
      refine ⟨p, w, ts, rfl, op, ot, few, p4, places_letters op pw, pw.length_eq, ?_⟩
      exact s.back h
end
end K10
set_option Elab.async false
set_option linter.all false
set_option maxRecDepth 100000
namespace K10
open PySem PySem.Spec PyProof.Rows L2 DL
section
variable {P : Program} {w : World} {K : PySem.W.Frag} {mg : Str → Option Value} {base : Heap} {A : Ad}
/-! ### the law -/
def g_law : GC := fun ds μ R => ∃ ns : List Int, ds = [.seq (ns.map D.int)] ∧ ns.length ≤ 63 ∧ ∀ μ', R (.bl true) μ'
def N69 : List Str := ["_law_cells", "_law_at"]
theorem sc69 : FnScope N69 ["_law_cells"] (defScope (top 69)) := ⟨rfl, rfl, rfl, by decide +kernel, rfl, by decide +kernel, by decide +kernel⟩
set_option maxHeartbeats 4000000 in
theorem okG_law (T : Tx K mg A) : FnG P w K mg base 12 A.law A.fd_law ["_law_cells"] (toSp K (g_law)) := by
  refine okDG T.F_law sc69 (fun ds μ R h => ?_) ⟨_, fun cdv A0 outer s H hr hG =>
    (dss_one (ds_ret (de_callB (cr_all (by rfl)) sim_all (by rfl) T.z_all boot_all (da_cons (de_lc (own := [("_law_at", 1)]) (by rfl) sc69.nd (di_range (by rfl) T.z_range (da_cons (de_callB (call_max2 (by rfl)) sim_max2 (by rfl) T.z_max boot_max (da_cons de_int (da_cons (de_callB (call_min2 (by rfl)) sim_min2 (by rfl) T.z_min boot_min (da_cons (de_callB cr_len sim_len (by rfl) T.z_len boot_len (da_cons (dv 0) da_nil)) (da_cons de_int da_nil))) da_nil))) da_nil)) (blkOk_by (N := N69) (own := [("_law_at", 1)]) (sc := defScope (top 69)) (by decide +kernel)) (fun _ _ _ _ _ => (pg_name (i := 1) sc69.nd rfl (by first | exact Or.inl rfl | exact Or.inr rfl))) (sim_nm (i := 1)) (fun _ _ _ _ _ => dts_nil) (fun _ _ _ _ _ => (de_call ((ok_L_right T).mono (by decide)) hr (by rfl) T.g_L_right T.F_L_right.kp T.b_L_right (da_cons (de_call ((ok_L_cask T).mono (by decide)) hr (by rfl) T.g_L_cask T.F_L_cask.kp T.b_L_cask (da_cons (dv 0) (da_cons (dv 1) da_nil))) da_nil)))) da_nil)))), fun ds μ R h => ?_⟩
  · obtain ⟨ns, rfl, _⟩ := h
    rfl
  · obtain ⟨ns, rfl, ln, h⟩ := h
    have lm : (ns.map D.int).length = ns.length := List.length_map _
    refine ⟨⟨?_, ?_⟩, ?_⟩
    · split <;> (try split) <;> omega
    · split <;> (try split) <;> omega
    · show LcB _ _ _ _ _ _ _ _
      refine lcb_eff (fun i ys ν => ys = List.replicate i (.bl true)) ?_ rfl ?_ ?_ ?_
      · rw [List.length_map, List.length_range, sizeLine_eq]
        split <;> (try split) <;> omega
      · rintro i ys ν rfl
        rw [List.length_replicate]
        exact Nat.le_refl _
      · rintro i it hi b ys ν N Y nb rfl hN hY
        obtain ⟨hi, rfl⟩ := range_at hi
        refine ⟨ns, i, rfl, by omega, fun x y z a na => ?_⟩
        have ne : b ≠ a := fun e => by
          rw [← e, put_same] at na
          cases na
        refine ⟨a, x, y, z, rfl, put_same, fun x' y' z' => ?_⟩
        rw [put_put, put_comm ne]
        refine hY (.bl true) _ (by rw [put_ne ne]; exact nb) ?_
        rw [List.replicate_succ']
      · rintro ys ν rfl
        refine ⟨List.replicate _ true, (List.map_replicate).symm, ?_⟩
        show R (.bl ((List.replicate _ true).all id)) ν
        have e : ∀ k, (List.replicate k true).all id = true := fun k => by
          rw [List.all_eq_true]
          intro c hc
          rw [List.eq_of_mem_replicate hc]
          rfl
        rw [e]
        exact h ν
end
end K10
set_option Elab.async false
set_option linter.all false
set_option maxRecDepth 100000
namespace K10
open PySem L2 DL
/-- a def of the module as the top has written it -/
structure DefAt (K : PySem.W.Frag) (x : Str) (st : Stmt) (f : Addr) : Prop where
  ns : PySem.W.nsIn K mainGlobals x = some (some (.ref f))
  fn : ∃ fd, Fun K x x st f fd
structure Facts (K : PySem.W.Frag) (C I Ln Qn Xn f_are_letters f_are_places f_is_tie f_first_wrong_tie f_check_places f_check_ties f_check_letters f_check_web f_in_order f_marks f_with_letters f_renamed f_all_orders f_counts_of_ties f_goes_on f_renamings f_plain_text f_count_renamings f_lot_of_all f_without f_lots_within f_all_lots f_rank_of f_spare_of f_full_rank f_is_ring_lot f_rings f_blocks f_trees_of f_all_trees f_rows_of_noughts f_tuple_of_rows f_counts_of_lots f_shifted f_across f_table_of f_table f_L_cask f_L_tap f_L_pick f_L_spots f_L_joint f_L_net f_L_page f_L_orders f_L_by f_L_single_right f_L_stays f_L_right f_law : Addr) : Prop where
  d_are_letters : DefAt K "are_letters" (top 12) f_are_letters
  d_are_places : DefAt K "are_places" (top 13) f_are_places
  d_is_tie : DefAt K "is_tie" (top 14) f_is_tie
  d_first_wrong_tie : DefAt K "first_wrong_tie" (top 15) f_first_wrong_tie
  d_check_places : DefAt K "check_places" (top 17) f_check_places
  d_check_ties : DefAt K "check_ties" (top 18) f_check_ties
  d_check_letters : DefAt K "check_letters" (top 19) f_check_letters
  d_check_web : DefAt K "check_web" (top 22) f_check_web
  d_in_order : DefAt K "in_order" (top 23) f_in_order
  d_marks : DefAt K "marks" (top 24) f_marks
  d_with_letters : DefAt K "with_letters" (top 25) f_with_letters
  d_renamed : DefAt K "renamed" (top 26) f_renamed
  d_all_orders : DefAt K "all_orders" (top 28) f_all_orders
  d_counts_of_ties : DefAt K "counts_of_ties" (top 29) f_counts_of_ties
  d_goes_on : DefAt K "goes_on" (top 30) f_goes_on
  d_renamings : DefAt K "renamings" (top 31) f_renamings
  d_plain_text : DefAt K "plain_text" (top 32) f_plain_text
  d_count_renamings : DefAt K "count_renamings" (top 33) f_count_renamings
  d_lot_of_all : DefAt K "lot_of_all" (top 35) f_lot_of_all
  d_without : DefAt K "without" (top 36) f_without
  d_lots_within : DefAt K "lots_within" (top 37) f_lots_within
  d_all_lots : DefAt K "all_lots" (top 38) f_all_lots
  d_rank_of : DefAt K "rank_of" (top 39) f_rank_of
  d_spare_of : DefAt K "spare_of" (top 40) f_spare_of
  d_full_rank : DefAt K "full_rank" (top 41) f_full_rank
  d_is_ring_lot : DefAt K "is_ring_lot" (top 42) f_is_ring_lot
  d_rings : DefAt K "rings" (top 43) f_rings
  d_blocks : DefAt K "blocks" (top 44) f_blocks
  d_trees_of : DefAt K "trees_of" (top 46) f_trees_of
  d_all_trees : DefAt K "all_trees" (top 47) f_all_trees
  d_rows_of_noughts : DefAt K "rows_of_noughts" (top 49) f_rows_of_noughts
  d_tuple_of_rows : DefAt K "tuple_of_rows" (top 50) f_tuple_of_rows
  d_counts_of_lots : DefAt K "counts_of_lots" (top 51) f_counts_of_lots
  d_shifted : DefAt K "shifted" (top 52) f_shifted
  d_across : DefAt K "across" (top 53) f_across
  d_table_of : DefAt K "table_of" (top 54) f_table_of
  d_table : DefAt K "table" (top 55) f_table
  d_L_cask : DefAt K "_law_cask" (top 57) f_L_cask
  d_L_tap : DefAt K "_law_tap" (top 58) f_L_tap
  d_L_pick : DefAt K "_law_pick" (top 59) f_L_pick
  d_L_spots : DefAt K "_law_spots" (top 60) f_L_spots
  d_L_joint : DefAt K "_law_joint" (top 61) f_L_joint
  d_L_net : DefAt K "_law_net" (top 62) f_L_net
  d_L_page : DefAt K "_law_page" (top 63) f_L_page
  d_L_orders : DefAt K "_law_orders" (top 64) f_L_orders
  d_L_by : DefAt K "_law_by" (top 65) f_L_by
  d_L_single_right : DefAt K "_law_single_right" (top 66) f_L_single_right
  d_L_stays : DefAt K "_law_stays" (top 67) f_L_stays
  d_L_right : DefAt K "_law_right" (top 68) f_L_right
  d_law : DefAt K "law" (top 69) f_law
  i_d : ∃ fd, Fun K "__init__" "Web.__init__" (inClass (top 21) 0) I fd
  c_ns : PySem.W.nsIn K mainGlobals "Web" = some (some (.ref C))
  c_init : PySem.W.findIn K (.ref C) "__init__" = some (some (.ref I))
  c_fn : PySem.W.isFn K (.ref I) = true
  c_pg : PySem.W.plainGet K C Str.empty = true
  c_hd : PySem.W.hasDictIn K C = true
  c_po : PySem.W.plainOver K C = true
  c_sa : PySem.W.findIn K (.ref C) "__setattr__" = some (some (.builtin "object.__setattr__"))
  c_mk : PySem.W.makesIn K C = true
  c_kc : PySem.W.keepIn K (.ref C) = true
  c_pl : PySem.W.findIn K (.ref C) "places" = some none
  c_ti : PySem.W.findIn K (.ref C) "ties" = some none
  c_ha : PySem.W.findIn K (.ref C) "__class__" = some (some (.builtin "object.__class__"))
  c_hn : PySem.W.specialIn K (.builtin "object.__class__") "__get__" = some (some (.builtin "getset_descriptor.__get__"))
  c_ht : PySem.W.takesIn K (.builtin "object.__class__") = some true
  c_hm : PySem.W.mroIn K C (.type "object") = some true
  c_len : PySem.W.findIn K (.ref C) "__len__" = some (some (.ref Ln))
  c_lt : PySem.W.typeIn K (.ref Ln) = some (.type "function")
  l_d : ∃ fd, Fun K "__len__" "Web.__len__" (inClass (top 21) 4) Ln fd
  c_tx : PySem.W.findIn K (.ref C) "text" = some (some (.ref Xn))
  c_txf : PySem.W.isFn K (.ref Xn) = true
  c_txk : PySem.W.keepIn K (.ref Xn) = true
  x_d : ∃ fd, Fun K "text" "Web.text" (inClass (top 21) 2) Xn fd
  c_eq : PySem.W.findIn K (.ref C) "__eq__" = some (some (.ref Qn))
  c_ef : PySem.W.isFn K (.ref Qn) = true
  c_ne : PySem.W.findIn K (.ref C) "__ne__" = some (some (.builtin "object.__ne__"))
  e_d : ∃ fd, Fun K "__eq__" "Web.__eq__" (inClass (top 21) 5) Qn fd
  m_comb : PySem.W.nsIn K mainGlobals "comb" = some (some (.builtin "math.comb"))
  z_abs : PySem.W.nsIn K mainGlobals "abs" = some none
  z_all : PySem.W.nsIn K mainGlobals "all" = some none
  z_dict : PySem.W.nsIn K mainGlobals "dict" = some none
  z_divmod : PySem.W.nsIn K mainGlobals "divmod" = some none
  z_enumerate : PySem.W.nsIn K mainGlobals "enumerate" = some none
  z_int : PySem.W.nsIn K mainGlobals "int" = some none
  z_isinstance : PySem.W.nsIn K mainGlobals "isinstance" = some none
  z_len : PySem.W.nsIn K mainGlobals "len" = some none
  z_list : PySem.W.nsIn K mainGlobals "list" = some none
  z_max : PySem.W.nsIn K mainGlobals "max" = some none
  z_min : PySem.W.nsIn K mainGlobals "min" = some none
  z_range : PySem.W.nsIn K mainGlobals "range" = some none
  z_sorted : PySem.W.nsIn K mainGlobals "sorted" = some none
  z_str : PySem.W.nsIn K mainGlobals "str" = some none
  z_tuple : PySem.W.nsIn K mainGlobals "tuple" = some none
  z_zip : PySem.W.nsIn K mainGlobals "zip" = some none
  k_MOST_PLACES : ∃ t, PySem.W.nsIn K mainGlobals "MOST_PLACES" = some (some (.int (7) t))
  k_MOST_TIES : ∃ t, PySem.W.nsIn K mainGlobals "MOST_TIES" = some (some (.int (11) t))
  k_LETTERS : ∃ t, PySem.W.nsIn K mainGlobals "LETTERS" = some (some (.str "abcdefgh" t))
set_option maxHeartbeats 4000000 in
theorem all_mk {K : PySem.W.Frag} {h : Heap} {mg : Str → Option Value} {fa C I Ln Qn Xn f_are_letters f_are_places f_is_tie f_first_wrong_tie f_check_places f_check_ties f_check_letters f_check_web f_in_order f_marks f_with_letters f_renamed f_all_orders f_counts_of_ties f_goes_on f_renamings f_plain_text f_count_renamings f_lot_of_all f_without f_lots_within f_all_lots f_rank_of f_spare_of f_full_rank f_is_ring_lot f_rings f_blocks f_trees_of f_all_trees f_rows_of_noughts f_tuple_of_rows f_counts_of_lots f_shifted f_across f_table_of f_table f_L_cask f_L_tap f_L_pick f_L_spots f_L_joint f_L_net f_L_page f_L_orders f_L_by f_L_single_right f_L_stays f_L_right f_law : Addr} (X : K.In h) (G : h.Ns mainGlobals mg) (hfa : mg "law" = some (.ref fa)) (F : Facts K C I Ln Qn Xn f_are_letters f_are_places f_is_tie f_first_wrong_tie f_check_places f_check_ties f_check_letters f_check_web f_in_order f_marks f_with_letters f_renamed f_all_orders f_counts_of_ties f_goes_on f_renamings f_plain_text f_count_renamings f_lot_of_all f_without f_lots_within f_all_lots f_rank_of f_spare_of f_full_rank f_is_ring_lot f_rings f_blocks f_trees_of f_all_trees f_rows_of_noughts f_tuple_of_rows f_counts_of_lots f_shifted f_across f_table_of f_table f_L_cask f_L_tap f_L_pick f_L_spots f_L_joint f_L_net f_L_page f_L_orders f_L_by f_L_single_right f_L_stays f_L_right f_law) :
    ∃ A : Ad, A.law = fa ∧ Tx K mg A := by
  have e := hfa.symm.trans (PySem.W.mg_of X G F.d_law.ns)
  cases e
  obtain ⟨fd_are_letters, F_are_letters⟩ := F.d_are_letters.fn
  obtain ⟨fd_are_places, F_are_places⟩ := F.d_are_places.fn
  obtain ⟨fd_is_tie, F_is_tie⟩ := F.d_is_tie.fn
  obtain ⟨fd_first_wrong_tie, F_first_wrong_tie⟩ := F.d_first_wrong_tie.fn
  obtain ⟨fd_check_places, F_check_places⟩ := F.d_check_places.fn
  obtain ⟨fd_check_ties, F_check_ties⟩ := F.d_check_ties.fn
  obtain ⟨fd_check_letters, F_check_letters⟩ := F.d_check_letters.fn
  obtain ⟨fd_check_web, F_check_web⟩ := F.d_check_web.fn
  obtain ⟨fd_in_order, F_in_order⟩ := F.d_in_order.fn
  obtain ⟨fd_marks, F_marks⟩ := F.d_marks.fn
  obtain ⟨fd_with_letters, F_with_letters⟩ := F.d_with_letters.fn
  obtain ⟨fd_renamed, F_renamed⟩ := F.d_renamed.fn
  obtain ⟨fd_all_orders, F_all_orders⟩ := F.d_all_orders.fn
  obtain ⟨fd_counts_of_ties, F_counts_of_ties⟩ := F.d_counts_of_ties.fn
  obtain ⟨fd_goes_on, F_goes_on⟩ := F.d_goes_on.fn
  obtain ⟨fd_renamings, F_renamings⟩ := F.d_renamings.fn
  obtain ⟨fd_plain_text, F_plain_text⟩ := F.d_plain_text.fn
  obtain ⟨fd_count_renamings, F_count_renamings⟩ := F.d_count_renamings.fn
  obtain ⟨fd_lot_of_all, F_lot_of_all⟩ := F.d_lot_of_all.fn
  obtain ⟨fd_without, F_without⟩ := F.d_without.fn
  obtain ⟨fd_lots_within, F_lots_within⟩ := F.d_lots_within.fn
  obtain ⟨fd_all_lots, F_all_lots⟩ := F.d_all_lots.fn
  obtain ⟨fd_rank_of, F_rank_of⟩ := F.d_rank_of.fn
  obtain ⟨fd_spare_of, F_spare_of⟩ := F.d_spare_of.fn
  obtain ⟨fd_full_rank, F_full_rank⟩ := F.d_full_rank.fn
  obtain ⟨fd_is_ring_lot, F_is_ring_lot⟩ := F.d_is_ring_lot.fn
  obtain ⟨fd_rings, F_rings⟩ := F.d_rings.fn
  obtain ⟨fd_blocks, F_blocks⟩ := F.d_blocks.fn
  obtain ⟨fd_trees_of, F_trees_of⟩ := F.d_trees_of.fn
  obtain ⟨fd_all_trees, F_all_trees⟩ := F.d_all_trees.fn
  obtain ⟨fd_rows_of_noughts, F_rows_of_noughts⟩ := F.d_rows_of_noughts.fn
  obtain ⟨fd_tuple_of_rows, F_tuple_of_rows⟩ := F.d_tuple_of_rows.fn
  obtain ⟨fd_counts_of_lots, F_counts_of_lots⟩ := F.d_counts_of_lots.fn
  obtain ⟨fd_shifted, F_shifted⟩ := F.d_shifted.fn
  obtain ⟨fd_across, F_across⟩ := F.d_across.fn
  obtain ⟨fd_table_of, F_table_of⟩ := F.d_table_of.fn
  obtain ⟨fd_table, F_table⟩ := F.d_table.fn
  obtain ⟨fd_L_cask, F_L_cask⟩ := F.d_L_cask.fn
  obtain ⟨fd_L_tap, F_L_tap⟩ := F.d_L_tap.fn
  obtain ⟨fd_L_pick, F_L_pick⟩ := F.d_L_pick.fn
  obtain ⟨fd_L_spots, F_L_spots⟩ := F.d_L_spots.fn
  obtain ⟨fd_L_joint, F_L_joint⟩ := F.d_L_joint.fn
  obtain ⟨fd_L_net, F_L_net⟩ := F.d_L_net.fn
  obtain ⟨fd_L_page, F_L_page⟩ := F.d_L_page.fn
  obtain ⟨fd_L_orders, F_L_orders⟩ := F.d_L_orders.fn
  obtain ⟨fd_L_by, F_L_by⟩ := F.d_L_by.fn
  obtain ⟨fd_L_single_right, F_L_single_right⟩ := F.d_L_single_right.fn
  obtain ⟨fd_L_stays, F_L_stays⟩ := F.d_L_stays.fn
  obtain ⟨fd_L_right, F_L_right⟩ := F.d_L_right.fn
  obtain ⟨fd_law, F_law⟩ := F.d_law.fn
  obtain ⟨fd_i, F_i⟩ := F.i_d
  obtain ⟨fd_l, F_l⟩ := F.l_d
  obtain ⟨fd_q, F_q⟩ := F.e_d
  obtain ⟨fd_x, F_x⟩ := F.x_d
  have b_are_letters := F_are_letters.binds (ps := ["value"]) fun _ _ _ _ _ _ us hl => match us, hl with | [_], _ => rfl
  have b_are_places := F_are_places.binds (ps := ["value"]) fun _ _ _ _ _ _ us hl => match us, hl with | [_], _ => rfl
  have b_is_tie := F_is_tie.binds (ps := ["places", "value"]) fun _ _ _ _ _ _ us hl => match us, hl with | [_, _], _ => rfl
  have b_first_wrong_tie := F_first_wrong_tie.binds (ps := ["places", "ties"]) fun _ _ _ _ _ _ us hl => match us, hl with | [_, _], _ => rfl
  have b_check_places := F_check_places.binds (ps := ["places"]) fun _ _ _ _ _ _ us hl => match us, hl with | [_], _ => rfl
  have b_check_ties := F_check_ties.binds (ps := ["places", "ties"]) fun _ _ _ _ _ _ us hl => match us, hl with | [_, _], _ => rfl
  have b_check_letters := F_check_letters.binds (ps := ["web", "letters"]) fun _ _ _ _ _ _ us hl => match us, hl with | [_, _], _ => rfl
  have b_check_web := F_check_web.binds (ps := ["web"]) fun _ _ _ _ _ _ us hl => match us, hl with | [_], _ => rfl
  have b_in_order := F_in_order.binds (ps := ["letters"]) fun _ _ _ _ _ _ us hl => match us, hl with | [_], _ => rfl
  have b_marks := F_marks.binds (ps := ["web", "lot"]) fun _ _ _ _ _ _ us hl => match us, hl with | [_, _], _ => rfl
  have b_with_letters := F_with_letters.binds (ps := ["web", "letters"]) fun _ _ _ _ _ _ us hl => match us, hl with | [_, _], _ => rfl
  have b_renamed := F_renamed.binds (ps := ["web", "letters"]) fun _ _ _ _ _ _ us hl => match us, hl with | [_, _], _ => rfl
  have b_all_orders := F_all_orders.binds (ps := ["letters"]) fun _ _ _ _ _ _ us hl => match us, hl with | [_], _ => rfl
  have b_counts_of_ties := F_counts_of_ties.binds (ps := ["web"]) fun _ _ _ _ _ _ us hl => match us, hl with | [_], _ => rfl
  have b_goes_on := F_goes_on.binds (ps := ["counts", "other_counts", "places", "letters"]) fun _ _ _ _ _ _ us hl => match us, hl with | [_, _, _, _], _ => rfl
  have b_renamings := F_renamings.binds (ps := ["web", "other_web"]) fun _ _ _ _ _ _ us hl => match us, hl with | [_, _], _ => rfl
  have b_plain_text := F_plain_text.binds (ps := ["web"]) fun _ _ _ _ _ _ us hl => match us, hl with | [_], _ => rfl
  have b_count_renamings := F_count_renamings.binds (ps := ["web"]) fun _ _ _ _ _ _ us hl => match us, hl with | [_], _ => rfl
  have b_lot_of_all := F_lot_of_all.binds (ps := ["web"]) fun _ _ _ _ _ _ us hl => match us, hl with | [_], _ => rfl
  have b_without := F_without.binds (ps := ["lot", "index"]) fun _ _ _ _ _ _ us hl => match us, hl with | [_, _], _ => rfl
  have b_lots_within := F_lots_within.binds (ps := ["lot"]) fun _ _ _ _ _ _ us hl => match us, hl with | [_], _ => rfl
  have b_all_lots := F_all_lots.binds (ps := ["web"]) fun _ _ _ _ _ _ us hl => match us, hl with | [_], _ => rfl
  have b_rank_of := F_rank_of.binds (ps := ["web", "lot"]) fun _ _ _ _ _ _ us hl => match us, hl with | [_, _], _ => rfl
  have b_spare_of := F_spare_of.binds (ps := ["web", "lot"]) fun _ _ _ _ _ _ us hl => match us, hl with | [_, _], _ => rfl
  have b_full_rank := F_full_rank.binds (ps := ["web"]) fun _ _ _ _ _ _ us hl => match us, hl with | [_], _ => rfl
  have b_is_ring_lot := F_is_ring_lot.binds (ps := ["web", "lot"]) fun _ _ _ _ _ _ us hl => match us, hl with | [_, _], _ => rfl
  have b_rings := F_rings.binds (ps := ["web"]) fun _ _ _ _ _ _ us hl => match us, hl with | [_], _ => rfl
  have b_blocks := F_blocks.binds (ps := ["web"]) fun _ _ _ _ _ _ us hl => match us, hl with | [_], _ => rfl
  have b_trees_of := F_trees_of.binds (ps := ["web"]) fun _ _ _ _ _ _ us hl => match us, hl with | [_], _ => rfl
  have b_all_trees := F_all_trees.binds (ps := ["web"]) fun _ _ _ _ _ _ us hl => match us, hl with | [_], _ => rfl
  have b_rows_of_noughts := F_rows_of_noughts.binds (ps := ["web"]) fun _ _ _ _ _ _ us hl => match us, hl with | [_], _ => rfl
  have b_tuple_of_rows := F_tuple_of_rows.binds (ps := ["rows"]) fun _ _ _ _ _ _ us hl => match us, hl with | [_], _ => rfl
  have b_counts_of_lots := F_counts_of_lots.binds (ps := ["web"]) fun _ _ _ _ _ _ us hl => match us, hl with | [_], _ => rfl
  have b_shifted := F_shifted.binds (ps := ["row"]) fun _ _ _ _ _ _ us hl => match us, hl with | [_], _ => rfl
  have b_across := F_across.binds (ps := ["rows"]) fun _ _ _ _ _ _ us hl => match us, hl with | [_], _ => rfl
  have b_table_of := F_table_of.binds (ps := ["web"]) fun _ _ _ _ _ _ us hl => match us, hl with | [_], _ => rfl
  have b_table := F_table.binds (ps := ["web"]) fun _ _ _ _ _ _ us hl => match us, hl with | [_], _ => rfl
  have b_L_cask := F_L_cask.binds (ps := ["_law_cells", "_law_at"]) fun _ _ _ _ _ _ us hl => match us, hl with | [_, _], _ => rfl
  have b_L_tap := F_L_tap.binds (ps := ["_law_cask_here", "_law_upto"]) fun _ _ _ _ _ _ us hl => match us, hl with | [_, _], _ => rfl
  have b_L_pick := F_L_pick.binds (ps := ["_law_cask_here", "_law_things"]) fun _ _ _ _ _ _ us hl => match us, hl with | [_, _], _ => rfl
  have b_L_spots := F_L_spots.binds (ps := ["_law_cask_here", "_law_many_here"]) fun _ _ _ _ _ _ us hl => match us, hl with | [_, _], _ => rfl
  have b_L_joint := F_L_joint.binds (ps := ["_law_one", "_law_two"]) fun _ _ _ _ _ _ us hl => match us, hl with | [_, _], _ => rfl
  have b_L_net := F_L_net.binds (ps := ["_law_cask_here", "_law_most_spots", "_law_most_rows"]) fun _ _ _ _ _ _ us hl => match us, hl with | [_, _, _], _ => rfl
  have b_L_page := F_L_page.binds (ps := ["_law_net_here"]) fun _ _ _ _ _ _ us hl => match us, hl with | [_], _ => rfl
  have b_L_orders := F_L_orders.binds (ps := ["_law_signs"]) fun _ _ _ _ _ _ us hl => match us, hl with | [_], _ => rfl
  have b_L_by := F_L_by.binds (ps := ["_law_net_here", "_law_signs"]) fun _ _ _ _ _ _ us hl => match us, hl with | [_, _], _ => rfl
  have b_L_single_right := F_L_single_right.binds (ps := ["_law_mine", "_law_net_here", "_law_signs"]) fun _ _ _ _ _ _ us hl => match us, hl with | [_, _, _], _ => rfl
  have b_L_stays := F_L_stays.binds (ps := ["_law_mine", "_law_fresh"]) fun _ _ _ _ _ _ us hl => match us, hl with | [_, _], _ => rfl
  have b_L_right := F_L_right.binds (ps := ["_law_cask_here"]) fun _ _ _ _ _ _ us hl => match us, hl with | [_], _ => rfl
  have b_law := F_law.binds (ps := ["_law_cells"]) fun _ _ _ _ _ _ us hl => match us, hl with | [_], _ => rfl
  have b_i := F_i.binds (ps := ["self", "places", "ties"]) fun _ _ _ _ _ _ us hl => match us, hl with | [_, _, _], _ => rfl
  have b_q := F_q.binds (ps := ["self", "other"]) fun _ _ _ _ _ _ us hl => match us, hl with | [_, _], _ => rfl
  have b_x := F_x.binds (ps := ["self"]) fun _ _ _ _ _ _ us hl => match us, hl with | [_], _ => rfl
  have b_l := F_l.binds (ps := ["self"]) fun _ _ _ _ _ _ us hl => match us, hl with | [_], _ => rfl
  have kb_renamed : KBn K fd_renamed ["web", "letters"] 0 ["letters", "web"] (fun _ ws => swp2 ws) (fun _ zs => swp2 zs) := by
    obtain ⟨oc, od, kV, doc, pm, an, cdv, ct, osl, rfl, lk, hcd⟩ := F_renamed.ex
    exact ⟨fun s us ws _ h1 h2 => match us, ws, h1, h2 with | [], [_, _], _, _ => .of_eq (by first | kernel_rfl | rfl), fun _ r => swp2_vals r⟩
  have kb_count_renamings : KBn K fd_count_renamings ["web"] 0 ["web"] (fun _ ws => ws) (fun _ zs => zs) := by
    obtain ⟨oc, od, kV, doc, pm, an, cdv, ct, osl, rfl, lk, hcd⟩ := F_count_renamings.ex
    exact ⟨fun s us ws _ h1 h2 => match us, ws, h1, h2 with | [], [_], _, _ => .of_eq (by first | kernel_rfl | rfl), fun _ r => r⟩
  have kb_plain_text : KBn K fd_plain_text ["web"] 0 ["web"] (fun _ ws => ws) (fun _ zs => zs) := by
    obtain ⟨oc, od, kV, doc, pm, an, cdv, ct, osl, rfl, lk, hcd⟩ := F_plain_text.ex
    exact ⟨fun s us ws _ h1 h2 => match us, ws, h1, h2 with | [], [_], _, _ => .of_eq (by first | kernel_rfl | rfl), fun _ r => r⟩
  have kc : Cls K C := ⟨F.c_pg, F.c_hd, F.c_po, F.c_sa⟩
  refine ⟨{ are_letters := f_are_letters, fd_are_letters := fd_are_letters, are_places := f_are_places, fd_are_places := fd_are_places, is_tie := f_is_tie, fd_is_tie := fd_is_tie, first_wrong_tie := f_first_wrong_tie, fd_first_wrong_tie := fd_first_wrong_tie, check_places := f_check_places, fd_check_places := fd_check_places, check_ties := f_check_ties, fd_check_ties := fd_check_ties, check_letters := f_check_letters, fd_check_letters := fd_check_letters, check_web := f_check_web, fd_check_web := fd_check_web, in_order := f_in_order, fd_in_order := fd_in_order, marks := f_marks, fd_marks := fd_marks, with_letters := f_with_letters, fd_with_letters := fd_with_letters, renamed := f_renamed, fd_renamed := fd_renamed, all_orders := f_all_orders, fd_all_orders := fd_all_orders, counts_of_ties := f_counts_of_ties, fd_counts_of_ties := fd_counts_of_ties, goes_on := f_goes_on, fd_goes_on := fd_goes_on, renamings := f_renamings, fd_renamings := fd_renamings, plain_text := f_plain_text, fd_plain_text := fd_plain_text, count_renamings := f_count_renamings, fd_count_renamings := fd_count_renamings, lot_of_all := f_lot_of_all, fd_lot_of_all := fd_lot_of_all, without := f_without, fd_without := fd_without, lots_within := f_lots_within, fd_lots_within := fd_lots_within, all_lots := f_all_lots, fd_all_lots := fd_all_lots, rank_of := f_rank_of, fd_rank_of := fd_rank_of, spare_of := f_spare_of, fd_spare_of := fd_spare_of, full_rank := f_full_rank, fd_full_rank := fd_full_rank, is_ring_lot := f_is_ring_lot, fd_is_ring_lot := fd_is_ring_lot, rings := f_rings, fd_rings := fd_rings, blocks := f_blocks, fd_blocks := fd_blocks, trees_of := f_trees_of, fd_trees_of := fd_trees_of, all_trees := f_all_trees, fd_all_trees := fd_all_trees, rows_of_noughts := f_rows_of_noughts, fd_rows_of_noughts := fd_rows_of_noughts, tuple_of_rows := f_tuple_of_rows, fd_tuple_of_rows := fd_tuple_of_rows, counts_of_lots := f_counts_of_lots, fd_counts_of_lots := fd_counts_of_lots, shifted := f_shifted, fd_shifted := fd_shifted, across := f_across, fd_across := fd_across, table_of := f_table_of, fd_table_of := fd_table_of, table := f_table, fd_table := fd_table, L_cask := f_L_cask, fd_L_cask := fd_L_cask, L_tap := f_L_tap, fd_L_tap := fd_L_tap, L_pick := f_L_pick, fd_L_pick := fd_L_pick, L_spots := f_L_spots, fd_L_spots := fd_L_spots, L_joint := f_L_joint, fd_L_joint := fd_L_joint, L_net := f_L_net, fd_L_net := fd_L_net, L_page := f_L_page, fd_L_page := fd_L_page, L_orders := f_L_orders, fd_L_orders := fd_L_orders, L_by := f_L_by, fd_L_by := fd_L_by, L_single_right := f_L_single_right, fd_L_single_right := fd_L_single_right, L_stays := f_L_stays, fd_L_stays := fd_L_stays, L_right := f_L_right, fd_L_right := fd_L_right, law := fa, fd_law := fd_law, Web := C, Web_init := I, fd_Web_init := fd_i, Web_len := Ln, fd_Web_len := fd_l, Web_eq := Qn, fd_Web_eq := fd_q, Web_text := Xn, fd_Web_text := fd_x }, rfl, ?_⟩
  exact {
    F_are_letters := F_are_letters,
    b_are_letters := b_are_letters,
    g_are_letters := PySem.W.mg_of X G F.d_are_letters.ns,
    F_are_places := F_are_places,
    b_are_places := b_are_places,
    g_are_places := PySem.W.mg_of X G F.d_are_places.ns,
    F_is_tie := F_is_tie,
    b_is_tie := b_is_tie,
    g_is_tie := PySem.W.mg_of X G F.d_is_tie.ns,
    F_first_wrong_tie := F_first_wrong_tie,
    b_first_wrong_tie := b_first_wrong_tie,
    g_first_wrong_tie := PySem.W.mg_of X G F.d_first_wrong_tie.ns,
    F_check_places := F_check_places,
    b_check_places := b_check_places,
    g_check_places := PySem.W.mg_of X G F.d_check_places.ns,
    F_check_ties := F_check_ties,
    b_check_ties := b_check_ties,
    g_check_ties := PySem.W.mg_of X G F.d_check_ties.ns,
    F_check_letters := F_check_letters,
    b_check_letters := b_check_letters,
    g_check_letters := PySem.W.mg_of X G F.d_check_letters.ns,
    F_check_web := F_check_web,
    b_check_web := b_check_web,
    g_check_web := PySem.W.mg_of X G F.d_check_web.ns,
    F_in_order := F_in_order,
    b_in_order := b_in_order,
    g_in_order := PySem.W.mg_of X G F.d_in_order.ns,
    F_marks := F_marks,
    b_marks := b_marks,
    g_marks := PySem.W.mg_of X G F.d_marks.ns,
    F_with_letters := F_with_letters,
    b_with_letters := b_with_letters,
    g_with_letters := PySem.W.mg_of X G F.d_with_letters.ns,
    F_renamed := F_renamed,
    b_renamed := b_renamed,
    g_renamed := PySem.W.mg_of X G F.d_renamed.ns,
    F_all_orders := F_all_orders,
    b_all_orders := b_all_orders,
    g_all_orders := PySem.W.mg_of X G F.d_all_orders.ns,
    F_counts_of_ties := F_counts_of_ties,
    b_counts_of_ties := b_counts_of_ties,
    g_counts_of_ties := PySem.W.mg_of X G F.d_counts_of_ties.ns,
    F_goes_on := F_goes_on,
    b_goes_on := b_goes_on,
    g_goes_on := PySem.W.mg_of X G F.d_goes_on.ns,
    F_renamings := F_renamings,
    b_renamings := b_renamings,
    g_renamings := PySem.W.mg_of X G F.d_renamings.ns,
    F_plain_text := F_plain_text,
    b_plain_text := b_plain_text,
    g_plain_text := PySem.W.mg_of X G F.d_plain_text.ns,
    F_count_renamings := F_count_renamings,
    b_count_renamings := b_count_renamings,
    g_count_renamings := PySem.W.mg_of X G F.d_count_renamings.ns,
    F_lot_of_all := F_lot_of_all,
    b_lot_of_all := b_lot_of_all,
    g_lot_of_all := PySem.W.mg_of X G F.d_lot_of_all.ns,
    F_without := F_without,
    b_without := b_without,
    g_without := PySem.W.mg_of X G F.d_without.ns,
    F_lots_within := F_lots_within,
    b_lots_within := b_lots_within,
    g_lots_within := PySem.W.mg_of X G F.d_lots_within.ns,
    F_all_lots := F_all_lots,
    b_all_lots := b_all_lots,
    g_all_lots := PySem.W.mg_of X G F.d_all_lots.ns,
    F_rank_of := F_rank_of,
    b_rank_of := b_rank_of,
    g_rank_of := PySem.W.mg_of X G F.d_rank_of.ns,
    F_spare_of := F_spare_of,
    b_spare_of := b_spare_of,
    g_spare_of := PySem.W.mg_of X G F.d_spare_of.ns,
    F_full_rank := F_full_rank,
    b_full_rank := b_full_rank,
    g_full_rank := PySem.W.mg_of X G F.d_full_rank.ns,
    F_is_ring_lot := F_is_ring_lot,
    b_is_ring_lot := b_is_ring_lot,
    g_is_ring_lot := PySem.W.mg_of X G F.d_is_ring_lot.ns,
    F_rings := F_rings,
    b_rings := b_rings,
    g_rings := PySem.W.mg_of X G F.d_rings.ns,
    F_blocks := F_blocks,
    b_blocks := b_blocks,
    g_blocks := PySem.W.mg_of X G F.d_blocks.ns,
    F_trees_of := F_trees_of,
    b_trees_of := b_trees_of,
    g_trees_of := PySem.W.mg_of X G F.d_trees_of.ns,
    F_all_trees := F_all_trees,
    b_all_trees := b_all_trees,
    g_all_trees := PySem.W.mg_of X G F.d_all_trees.ns,
    F_rows_of_noughts := F_rows_of_noughts,
    b_rows_of_noughts := b_rows_of_noughts,
    g_rows_of_noughts := PySem.W.mg_of X G F.d_rows_of_noughts.ns,
    F_tuple_of_rows := F_tuple_of_rows,
    b_tuple_of_rows := b_tuple_of_rows,
    g_tuple_of_rows := PySem.W.mg_of X G F.d_tuple_of_rows.ns,
    F_counts_of_lots := F_counts_of_lots,
    b_counts_of_lots := b_counts_of_lots,
    g_counts_of_lots := PySem.W.mg_of X G F.d_counts_of_lots.ns,
    F_shifted := F_shifted,
    b_shifted := b_shifted,
    g_shifted := PySem.W.mg_of X G F.d_shifted.ns,
    F_across := F_across,
    b_across := b_across,
    g_across := PySem.W.mg_of X G F.d_across.ns,
    F_table_of := F_table_of,
    b_table_of := b_table_of,
    g_table_of := PySem.W.mg_of X G F.d_table_of.ns,
    F_table := F_table,
    b_table := b_table,
    g_table := PySem.W.mg_of X G F.d_table.ns,
    F_L_cask := F_L_cask,
    b_L_cask := b_L_cask,
    g_L_cask := PySem.W.mg_of X G F.d_L_cask.ns,
    F_L_tap := F_L_tap,
    b_L_tap := b_L_tap,
    g_L_tap := PySem.W.mg_of X G F.d_L_tap.ns,
    F_L_pick := F_L_pick,
    b_L_pick := b_L_pick,
    g_L_pick := PySem.W.mg_of X G F.d_L_pick.ns,
    F_L_spots := F_L_spots,
    b_L_spots := b_L_spots,
    g_L_spots := PySem.W.mg_of X G F.d_L_spots.ns,
    F_L_joint := F_L_joint,
    b_L_joint := b_L_joint,
    g_L_joint := PySem.W.mg_of X G F.d_L_joint.ns,
    F_L_net := F_L_net,
    b_L_net := b_L_net,
    g_L_net := PySem.W.mg_of X G F.d_L_net.ns,
    F_L_page := F_L_page,
    b_L_page := b_L_page,
    g_L_page := PySem.W.mg_of X G F.d_L_page.ns,
    F_L_orders := F_L_orders,
    b_L_orders := b_L_orders,
    g_L_orders := PySem.W.mg_of X G F.d_L_orders.ns,
    F_L_by := F_L_by,
    b_L_by := b_L_by,
    g_L_by := PySem.W.mg_of X G F.d_L_by.ns,
    F_L_single_right := F_L_single_right,
    b_L_single_right := b_L_single_right,
    g_L_single_right := PySem.W.mg_of X G F.d_L_single_right.ns,
    F_L_stays := F_L_stays,
    b_L_stays := b_L_stays,
    g_L_stays := PySem.W.mg_of X G F.d_L_stays.ns,
    F_L_right := F_L_right,
    b_L_right := b_L_right,
    g_L_right := PySem.W.mg_of X G F.d_L_right.ns,
    F_law := F_law,
    b_law := b_law,
    g_law := PySem.W.mg_of X G F.d_law.ns,
    m_comb := PySem.W.mg_of X G F.m_comb,
    z_abs := PySem.W.mg_none_of X G F.z_abs,
    z_all := PySem.W.mg_none_of X G F.z_all,
    z_dict := PySem.W.mg_none_of X G F.z_dict,
    z_divmod := PySem.W.mg_none_of X G F.z_divmod,
    z_enumerate := PySem.W.mg_none_of X G F.z_enumerate,
    z_int := PySem.W.mg_none_of X G F.z_int,
    z_isinstance := PySem.W.mg_none_of X G F.z_isinstance,
    z_len := PySem.W.mg_none_of X G F.z_len,
    z_list := PySem.W.mg_none_of X G F.z_list,
    z_max := PySem.W.mg_none_of X G F.z_max,
    z_min := PySem.W.mg_none_of X G F.z_min,
    z_range := PySem.W.mg_none_of X G F.z_range,
    z_sorted := PySem.W.mg_none_of X G F.z_sorted,
    z_str := PySem.W.mg_none_of X G F.z_str,
    z_tuple := PySem.W.mg_none_of X G F.z_tuple,
    z_zip := PySem.W.mg_none_of X G F.z_zip,
    c_MOST_PLACES := F.k_MOST_PLACES.elim fun t e => ⟨t, PySem.W.mg_of X G e⟩,
    c_MOST_TIES := F.k_MOST_TIES.elim fun t e => ⟨t, PySem.W.mg_of X G e⟩,
    c_LETTERS := F.k_LETTERS.elim fun t e => ⟨t, PySem.W.mg_of X G e⟩,
    g_Web := PySem.W.mg_of X G F.c_ns,
    k_Web := kc,
    i_Web := ⟨kc, F.c_ha, F.c_hn, F.c_ht, F.c_hm⟩,
    n_places := F.c_pl,
    n_ties := F.c_ti,
    m_Web := ⟨F.c_mk, F.c_init, F.c_fn, F.c_kc⟩,
    F_Web_init := F_i,
    b_Web_init := b_i,
    F_Web_len := F_l,
    b_Web_len := b_l,
    s_Web_len := F.c_len,
    t_Web_len := F.c_lt,
    F_Web_text := F_x,
    b_Web_text := b_x,
    t_Web_text := ⟨F.c_tx, F.c_txf, F.c_txk⟩,
    F_Web_eq := F_q,
    b_Web_eq := b_q,
    s_Web_eq := F.c_eq,
    f_Web_eq := F.c_ef,
    ne_Web := F.c_ne,
    ob_Web := F.c_hm,
    kb_renamed := kb_renamed,
    kb_count_renamings := kb_count_renamings,
    kb_plain_text := kb_plain_text }
theorem law_fn {P : Program} {w : World} {K : PySem.W.Frag} {mg : Str → Option Value} {fa : Addr} {h : Heap} (X : K.In h) (G : h.Ns mainGlobals mg) (H : ∃ A : Ad, A.law = fa ∧ Tx K mg A) :
    ∃ fd : FuncData, (∀ (s : Shared) (u : Value), BindsTo s fd ⟨[u], []⟩ [("_law_cells", u)]) ∧ ∀ base : Heap, K.In base → base.Ns mainGlobals mg → FnG P w K mg base 12 fa fd ["_law_cells"] (toSp K g_law) := by
  obtain ⟨A, rfl, T⟩ := H
  refine ⟨A.fd_law, fun s u => ?_, fun base _ _ => okG_law T⟩
  obtain ⟨oc, od, kV, doc, pm, an, cdv, ct, osl, e, lk, hcd⟩ := T.F_law.ex
  rw [e]
  exact .of_eq rfl
end K10
set_option Elab.async false
set_option linter.all false
set_option maxRecDepth 100000
set_option maxHeartbeats 0
namespace DL
open PySem PySem.Spec PyProof.Rows L2
/-- the goal that a head by facts leaves: the part of the store is told with it -/
theorem walk_ofDE {l : PySem.W.OpenLaw} {n k : Nat} {q : Program} {loose : List Str} {XP : (Str → Option Value) → Heap → Prop} {YP : World → Heap → Prop} {d : DefRec} {g : GC} {x : Str}
    (hn : l.most = some n) (hn2 : n ≤ sizeLine) (hdf : d.params.defaults = []) (hr : Room k callerA)
    (F : ∀ (w : World) (mg : Str → Option Value) (fa : Addr) (h : Heap), YP w h → h.Ns mainGlobals mg → mg d.name = some (.ref fa) →
      ∃ (K : PySem.W.Frag) (fd : FuncData), K.In h ∧ (∀ (s : Shared) (u : Value), BindsTo s fd ⟨[u], []⟩ [(x, u)]) ∧ ∀ base : Heap, K.In base → base.Ns mainGlobals mg → FnG l.prog w K mg base k fa fd [x] (toSp K g))
    (hsp : ∀ (ns : List Int), ns.length ≤ n → (∀ z ∈ ns, Builtin.Int.intBits z ≤ 1048576) → g [.seq (ns.map D.int)] (fun _ => none) fun d _ => d = .bl true) :
    PySem.W.WalkO q loose XP YP l.row.toRowW d [] (fun f vs => PySem.call f vs) := by
  refine Att.attach_callB hn hdf fun w s0 s1 mg mb fa o pm cd doc a vs ns G Y ho hd hcd hmg hobj hints hlen hbits hg => ?_
  obtain ⟨K, fd, KX, hb, hF⟩ := F w mg fa _ Y G.T.g hmg
  exact law_callD KX G.T.g G.T.b G.T.builtins G.T.nolimit hg hobj hints (Nat.le_trans hlen hn2) hr hF hb (hsp ns hlen hbits)
end DL
namespace K10
open PySem L2 DL
theorem fun_of {K : PySem.W.Frag} {x qual : Str} {st : Stmt} {f : Addr} (h : ∃ fd, FunD K x qual (defArgs st) (defBody st) (defScope st) [] [] f fd) : ∃ fd, Fun K x qual st f fd := by
  obtain ⟨fd, ⟨oc, od, dV, kV, doc, pm, an, cdv, ct, osl, e, l, c, dv, _⟩, kp⟩ := h
  have z : dV = .none := by
    rcases dv with ⟨_, h⟩ | ⟨h, _⟩
    · exact h
    · exact absurd rfl h
  subst z
  exact ⟨fd, ⟨oc, od, kV, doc, pm, an, cdv, ct, osl, e, l, c⟩, kp⟩
theorem int_ns {K : PySem.W.Frag} {x : Str} {i : Int} (h : intB K x i = true) : ∃ t, PySem.W.nsIn K mainGlobals x = some (some (.int i t)) := by
  unfold intB at h
  split at h
  · rename_i own t e
    rw [← of_decide_eq_true h] at e
    exact ⟨t, e⟩
  · cases h
theorem str_ns {K : PySem.W.Frag} {x z : Str} (h : strB K x z = true) : ∃ t, PySem.W.nsIn K mainGlobals x = some (some (.str z t)) := by
  unfold strB at h
  split at h
  · rename_i own t e
    rw [← of_decide_eq_true h] at e
    exact ⟨t, e⟩
  · cases h
theorem factsHd {K : PySem.W.Frag} {w : World} (c : lookHd K = valHd w) : Facts K (He.ga K "Web") (He.ma K (He.ga K "Web") "__init__") (He.ma K (He.ga K "Web") "__len__") (He.ma K (He.ga K "Web") "__eq__") (He.ma K (He.ga K "Web") "text") (He.ga K "are_letters") (He.ga K "are_places") (He.ga K "is_tie") (He.ga K "first_wrong_tie") (He.ga K "check_places") (He.ga K "check_ties") (He.ga K "check_letters") (He.ga K "check_web") (He.ga K "in_order") (He.ga K "marks") (He.ga K "with_letters") (He.ga K "renamed") (He.ga K "all_orders") (He.ga K "counts_of_ties") (He.ga K "goes_on") (He.ga K "renamings") (He.ga K "plain_text") (He.ga K "count_renamings") (He.ga K "lot_of_all") (He.ga K "without") (He.ga K "lots_within") (He.ga K "all_lots") (He.ga K "rank_of") (He.ga K "spare_of") (He.ga K "full_rank") (He.ga K "is_ring_lot") (He.ga K "rings") (He.ga K "blocks") (He.ga K "trees_of") (He.ga K "all_trees") (He.ga K "rows_of_noughts") (He.ga K "tuple_of_rows") (He.ga K "counts_of_lots") (He.ga K "shifted") (He.ga K "across") (He.ga K "table_of") (He.ga K "table") (He.ga K "_law_cask") (He.ga K "_law_tap") (He.ga K "_law_pick") (He.ga K "_law_spots") (He.ga K "_law_joint") (He.ga K "_law_net") (He.ga K "_law_page") (He.ga K "_law_orders") (He.ga K "_law_by") (He.ga K "_law_single_right") (He.ga K "_law_stays") (He.ga K "_law_right") (He.ga K "law") := by
  have r : exHd K = true := congrArg (fun z : He.AlD × Bool => z.2) c
  unfold exHd at r
  obtain ⟨h_n_are_letters, r⟩ := He.ba r
  obtain ⟨h_n_are_places, r⟩ := He.ba r
  obtain ⟨h_n_is_tie, r⟩ := He.ba r
  obtain ⟨h_n_first_wrong_tie, r⟩ := He.ba r
  obtain ⟨h_n_check_places, r⟩ := He.ba r
  obtain ⟨h_n_check_ties, r⟩ := He.ba r
  obtain ⟨h_n_check_letters, r⟩ := He.ba r
  obtain ⟨h_n_check_web, r⟩ := He.ba r
  obtain ⟨h_n_in_order, r⟩ := He.ba r
  obtain ⟨h_n_marks, r⟩ := He.ba r
  obtain ⟨h_n_with_letters, r⟩ := He.ba r
  obtain ⟨h_n_renamed, r⟩ := He.ba r
  obtain ⟨h_n_all_orders, r⟩ := He.ba r
  obtain ⟨h_n_counts_of_ties, r⟩ := He.ba r
  obtain ⟨h_n_goes_on, r⟩ := He.ba r
  obtain ⟨h_n_renamings, r⟩ := He.ba r
  obtain ⟨h_n_plain_text, r⟩ := He.ba r
  obtain ⟨h_n_count_renamings, r⟩ := He.ba r
  obtain ⟨h_n_lot_of_all, r⟩ := He.ba r
  obtain ⟨h_n_without, r⟩ := He.ba r
  obtain ⟨h_n_lots_within, r⟩ := He.ba r
  obtain ⟨h_n_all_lots, r⟩ := He.ba r
  obtain ⟨h_n_rank_of, r⟩ := He.ba r
  obtain ⟨h_n_spare_of, r⟩ := He.ba r
  obtain ⟨h_n_full_rank, r⟩ := He.ba r
  obtain ⟨h_n_is_ring_lot, r⟩ := He.ba r
  obtain ⟨h_n_rings, r⟩ := He.ba r
  obtain ⟨h_n_blocks, r⟩ := He.ba r
  obtain ⟨h_n_trees_of, r⟩ := He.ba r
  obtain ⟨h_n_all_trees, r⟩ := He.ba r
  obtain ⟨h_n_rows_of_noughts, r⟩ := He.ba r
  obtain ⟨h_n_tuple_of_rows, r⟩ := He.ba r
  obtain ⟨h_n_counts_of_lots, r⟩ := He.ba r
  obtain ⟨h_n_shifted, r⟩ := He.ba r
  obtain ⟨h_n_across, r⟩ := He.ba r
  obtain ⟨h_n_table_of, r⟩ := He.ba r
  obtain ⟨h_n_table, r⟩ := He.ba r
  obtain ⟨h_n_L_cask, r⟩ := He.ba r
  obtain ⟨h_n_L_tap, r⟩ := He.ba r
  obtain ⟨h_n_L_pick, r⟩ := He.ba r
  obtain ⟨h_n_L_spots, r⟩ := He.ba r
  obtain ⟨h_n_L_joint, r⟩ := He.ba r
  obtain ⟨h_n_L_net, r⟩ := He.ba r
  obtain ⟨h_n_L_page, r⟩ := He.ba r
  obtain ⟨h_n_L_orders, r⟩ := He.ba r
  obtain ⟨h_n_L_by, r⟩ := He.ba r
  obtain ⟨h_n_L_single_right, r⟩ := He.ba r
  obtain ⟨h_n_L_stays, r⟩ := He.ba r
  obtain ⟨h_n_L_right, r⟩ := He.ba r
  obtain ⟨h_n_law, r⟩ := He.ba r
  obtain ⟨h_c_ns, r⟩ := He.ba r
  obtain ⟨h_c_init, r⟩ := He.ba r
  obtain ⟨h_c_fn, r⟩ := He.ba r
  obtain ⟨h_c_pg, r⟩ := He.ba r
  obtain ⟨h_c_hd, r⟩ := He.ba r
  obtain ⟨h_c_po, r⟩ := He.ba r
  obtain ⟨h_c_sa, r⟩ := He.ba r
  obtain ⟨h_c_mk, r⟩ := He.ba r
  obtain ⟨h_c_kc, r⟩ := He.ba r
  obtain ⟨h_c_pl, r⟩ := He.ba r
  obtain ⟨h_c_ti, r⟩ := He.ba r
  obtain ⟨h_c_ha, r⟩ := He.ba r
  obtain ⟨h_c_hn, r⟩ := He.ba r
  obtain ⟨h_c_ht, r⟩ := He.ba r
  obtain ⟨h_c_hm, r⟩ := He.ba r
  obtain ⟨h_c_len, r⟩ := He.ba r
  obtain ⟨h_c_lt, r⟩ := He.ba r
  obtain ⟨h_c_eq, r⟩ := He.ba r
  obtain ⟨h_c_ef, r⟩ := He.ba r
  obtain ⟨h_c_ne, r⟩ := He.ba r
  obtain ⟨h_c_tx, r⟩ := He.ba r
  obtain ⟨h_c_txf, r⟩ := He.ba r
  obtain ⟨h_c_txk, r⟩ := He.ba r
  obtain ⟨h_m_comb, r⟩ := He.ba r
  obtain ⟨h_z_abs, r⟩ := He.ba r
  obtain ⟨h_z_all, r⟩ := He.ba r
  obtain ⟨h_z_dict, r⟩ := He.ba r
  obtain ⟨h_z_divmod, r⟩ := He.ba r
  obtain ⟨h_z_enumerate, r⟩ := He.ba r
  obtain ⟨h_z_int, r⟩ := He.ba r
  obtain ⟨h_z_isinstance, r⟩ := He.ba r
  obtain ⟨h_z_len, r⟩ := He.ba r
  obtain ⟨h_z_list, r⟩ := He.ba r
  obtain ⟨h_z_max, r⟩ := He.ba r
  obtain ⟨h_z_min, r⟩ := He.ba r
  obtain ⟨h_z_range, r⟩ := He.ba r
  obtain ⟨h_z_sorted, r⟩ := He.ba r
  obtain ⟨h_z_str, r⟩ := He.ba r
  obtain ⟨h_z_tuple, r⟩ := He.ba r
  obtain ⟨h_z_zip, r⟩ := He.ba r
  obtain ⟨h_k_MOST_PLACES, r⟩ := He.ba r
  obtain ⟨h_k_MOST_TIES, r⟩ := He.ba r
  have h_k_LETTERS := r
  have sd : He.SaysD [] fnHd K := congrArg (fun z : He.AlD × Bool => z.1) c
  exact {
    d_are_letters := ⟨of_decide_eq_true h_n_are_letters, (fun_of (sd.def_ 0 rfl))⟩,
    d_are_places := ⟨of_decide_eq_true h_n_are_places, (fun_of (sd.def_ 1 rfl))⟩,
    d_is_tie := ⟨of_decide_eq_true h_n_is_tie, (fun_of (sd.def_ 2 rfl))⟩,
    d_first_wrong_tie := ⟨of_decide_eq_true h_n_first_wrong_tie, (fun_of (sd.def_ 3 rfl))⟩,
    d_check_places := ⟨of_decide_eq_true h_n_check_places, (fun_of (sd.def_ 4 rfl))⟩,
    d_check_ties := ⟨of_decide_eq_true h_n_check_ties, (fun_of (sd.def_ 5 rfl))⟩,
    d_check_letters := ⟨of_decide_eq_true h_n_check_letters, (fun_of (sd.def_ 6 rfl))⟩,
    d_check_web := ⟨of_decide_eq_true h_n_check_web, (fun_of (sd.def_ 7 rfl))⟩,
    d_in_order := ⟨of_decide_eq_true h_n_in_order, (fun_of (sd.def_ 8 rfl))⟩,
    d_marks := ⟨of_decide_eq_true h_n_marks, (fun_of (sd.def_ 9 rfl))⟩,
    d_with_letters := ⟨of_decide_eq_true h_n_with_letters, (fun_of (sd.def_ 10 rfl))⟩,
    d_renamed := ⟨of_decide_eq_true h_n_renamed, (fun_of (sd.def_ 11 rfl))⟩,
    d_all_orders := ⟨of_decide_eq_true h_n_all_orders, (fun_of (sd.def_ 12 rfl))⟩,
    d_counts_of_ties := ⟨of_decide_eq_true h_n_counts_of_ties, (fun_of (sd.def_ 13 rfl))⟩,
    d_goes_on := ⟨of_decide_eq_true h_n_goes_on, (fun_of (sd.def_ 14 rfl))⟩,
    d_renamings := ⟨of_decide_eq_true h_n_renamings, (fun_of (sd.def_ 15 rfl))⟩,
    d_plain_text := ⟨of_decide_eq_true h_n_plain_text, (fun_of (sd.def_ 16 rfl))⟩,
    d_count_renamings := ⟨of_decide_eq_true h_n_count_renamings, (fun_of (sd.def_ 17 rfl))⟩,
    d_lot_of_all := ⟨of_decide_eq_true h_n_lot_of_all, (fun_of (sd.def_ 18 rfl))⟩,
    d_without := ⟨of_decide_eq_true h_n_without, (fun_of (sd.def_ 19 rfl))⟩,
    d_lots_within := ⟨of_decide_eq_true h_n_lots_within, (fun_of (sd.def_ 20 rfl))⟩,
    d_all_lots := ⟨of_decide_eq_true h_n_all_lots, (fun_of (sd.def_ 21 rfl))⟩,
    d_rank_of := ⟨of_decide_eq_true h_n_rank_of, (fun_of (sd.def_ 22 rfl))⟩,
    d_spare_of := ⟨of_decide_eq_true h_n_spare_of, (fun_of (sd.def_ 23 rfl))⟩,
    d_full_rank := ⟨of_decide_eq_true h_n_full_rank, (fun_of (sd.def_ 24 rfl))⟩,
    d_is_ring_lot := ⟨of_decide_eq_true h_n_is_ring_lot, (fun_of (sd.def_ 25 rfl))⟩,
    d_rings := ⟨of_decide_eq_true h_n_rings, (fun_of (sd.def_ 26 rfl))⟩,
    d_blocks := ⟨of_decide_eq_true h_n_blocks, (fun_of (sd.def_ 27 rfl))⟩,
    d_trees_of := ⟨of_decide_eq_true h_n_trees_of, (fun_of (sd.def_ 28 rfl))⟩,
    d_all_trees := ⟨of_decide_eq_true h_n_all_trees, (fun_of (sd.def_ 29 rfl))⟩,
    d_rows_of_noughts := ⟨of_decide_eq_true h_n_rows_of_noughts, (fun_of (sd.def_ 30 rfl))⟩,
    d_tuple_of_rows := ⟨of_decide_eq_true h_n_tuple_of_rows, (fun_of (sd.def_ 31 rfl))⟩,
    d_counts_of_lots := ⟨of_decide_eq_true h_n_counts_of_lots, (fun_of (sd.def_ 32 rfl))⟩,
    d_shifted := ⟨of_decide_eq_true h_n_shifted, (fun_of (sd.def_ 33 rfl))⟩,
    d_across := ⟨of_decide_eq_true h_n_across, (fun_of (sd.def_ 34 rfl))⟩,
    d_table_of := ⟨of_decide_eq_true h_n_table_of, (fun_of (sd.def_ 35 rfl))⟩,
    d_table := ⟨of_decide_eq_true h_n_table, (fun_of (sd.def_ 36 rfl))⟩,
    d_L_cask := ⟨of_decide_eq_true h_n_L_cask, (fun_of (sd.def_ 37 rfl))⟩,
    d_L_tap := ⟨of_decide_eq_true h_n_L_tap, (fun_of (sd.def_ 38 rfl))⟩,
    d_L_pick := ⟨of_decide_eq_true h_n_L_pick, (fun_of (sd.def_ 39 rfl))⟩,
    d_L_spots := ⟨of_decide_eq_true h_n_L_spots, (fun_of (sd.def_ 40 rfl))⟩,
    d_L_joint := ⟨of_decide_eq_true h_n_L_joint, (fun_of (sd.def_ 41 rfl))⟩,
    d_L_net := ⟨of_decide_eq_true h_n_L_net, (fun_of (sd.def_ 42 rfl))⟩,
    d_L_page := ⟨of_decide_eq_true h_n_L_page, (fun_of (sd.def_ 43 rfl))⟩,
    d_L_orders := ⟨of_decide_eq_true h_n_L_orders, (fun_of (sd.def_ 44 rfl))⟩,
    d_L_by := ⟨of_decide_eq_true h_n_L_by, (fun_of (sd.def_ 45 rfl))⟩,
    d_L_single_right := ⟨of_decide_eq_true h_n_L_single_right, (fun_of (sd.def_ 46 rfl))⟩,
    d_L_stays := ⟨of_decide_eq_true h_n_L_stays, (fun_of (sd.def_ 47 rfl))⟩,
    d_L_right := ⟨of_decide_eq_true h_n_L_right, (fun_of (sd.def_ 48 rfl))⟩,
    d_law := ⟨of_decide_eq_true h_n_law, (fun_of (sd.def_ 49 rfl))⟩,
    i_d := fun_of (sd.def_ 50 rfl),
    c_ns := of_decide_eq_true h_c_ns,
    c_init := of_decide_eq_true h_c_init,
    c_fn := h_c_fn,
    c_pg := h_c_pg,
    c_hd := h_c_hd,
    c_po := h_c_po,
    c_sa := of_decide_eq_true h_c_sa,
    c_mk := h_c_mk,
    c_kc := h_c_kc,
    c_pl := of_decide_eq_true h_c_pl,
    c_ti := of_decide_eq_true h_c_ti,
    c_ha := of_decide_eq_true h_c_ha,
    c_hn := of_decide_eq_true h_c_hn,
    c_ht := of_decide_eq_true h_c_ht,
    c_hm := of_decide_eq_true h_c_hm,
    c_len := of_decide_eq_true h_c_len,
    c_lt := of_decide_eq_true h_c_lt,
    l_d := fun_of (sd.def_ 51 rfl),
    c_eq := of_decide_eq_true h_c_eq,
    c_ef := h_c_ef,
    c_ne := of_decide_eq_true h_c_ne,
    e_d := fun_of (sd.def_ 52 rfl),
    c_tx := of_decide_eq_true h_c_tx,
    c_txf := h_c_txf,
    c_txk := h_c_txk,
    x_d := fun_of (sd.def_ 53 rfl),
    m_comb := of_decide_eq_true h_m_comb,
    z_abs := of_decide_eq_true h_z_abs,
    z_all := of_decide_eq_true h_z_all,
    z_dict := of_decide_eq_true h_z_dict,
    z_divmod := of_decide_eq_true h_z_divmod,
    z_enumerate := of_decide_eq_true h_z_enumerate,
    z_int := of_decide_eq_true h_z_int,
    z_isinstance := of_decide_eq_true h_z_isinstance,
    z_len := of_decide_eq_true h_z_len,
    z_list := of_decide_eq_true h_z_list,
    z_max := of_decide_eq_true h_z_max,
    z_min := of_decide_eq_true h_z_min,
    z_range := of_decide_eq_true h_z_range,
    z_sorted := of_decide_eq_true h_z_sorted,
    z_str := of_decide_eq_true h_z_str,
    z_tuple := of_decide_eq_true h_z_tuple,
    z_zip := of_decide_eq_true h_z_zip,
    k_MOST_PLACES := int_ns h_k_MOST_PLACES,
    k_MOST_TIES := int_ns h_k_MOST_TIES,
    k_LETTERS := str_ns h_k_LETTERS }
end K10
open PySem PySem.W PySem.Calls PyProof.Rows
theorem PySem.Challenge.cw_webreckon_k06_whole_webs_renamed_holds : PySem.Challenge.rw_webreckon_k06_whole_webs_renamed.Holds := by
  w_on; o_law
  refine HandSHeadRun.head_imp (r := K10.rowHd) (q := view K10.rowHd.prog [0, 69]) (H := K10.hookHd) (ob := K10.obHd) (M := 9000) (loose := K10.looseHd) (d := HandSHeadRun.topDef K10.rowHd.prog 69) (kwd := []) K10.obHd_eq K10.runHd
    (by kernel_rfl) (by kernel_rfl) (by kernel_rfl) (by rfl) (by first | assumption | decide +kernel) (by decide +kernel) ⟨rfl, rfl, rfl, rfl, rfl, by decide +kernel⟩ ?hw ?hc
  case hw => w_witness2
  case hc =>
    refine DL.walk_ofDE (l := PySem.Challenge.rw_webreckon_k06_whole_webs_renamed) (n := 63) (k := 12) (x := "_law_cells") (g := K10.g_law) rfl (by decide) (by kernel_rfl) ⟨rfl, by decide, by decide⟩ ?F ?hsp
    case hsp => exact fun ns hl _ => ⟨ns, rfl, hl, fun _ => rfl⟩
    case F =>
      intro w mg fa h Y G hmg0
      obtain ⟨K, KX, c⟩ := Y
      have hmg : mg ("law" : PySem.Str) = some (.ref fa) := by
        have e : (HandSHeadRun.topDef K10.rowHd.prog 69).name = ("law" : PySem.Str) := by kernel_rfl
        rw [← e]
        exact hmg0
      obtain ⟨fd, b, f⟩ := K10.law_fn KX G (K10.all_mk KX G hmg (K10.factsHd c))
      exact ⟨K, fd, KX, b, f⟩
