import PyProof.Rows.All
import Wide.All
import OpenK.AllK
import Wide.FinOn
import KE.KStateDown
import KE.KExcIs
import HandS.ForMost
import HandS.WordsExc
import HandS.Defaults
import HandS.More
import HandS.IsInst
import HandS.ExcInit
import HandS.HeadHook1
import HandS.HeadHook2
import HandS.Codes
import HandS.Head0
import HandS.Head1
import HandS.Head2
import HandS.HeadEnd
import HandS.TupAny
import HandS.Lambda
import HandS.Text
import HandS.Comp
import HandS.ReplaceLit
import HandS.ReplaceList
import HandS.ReplaceDef
import HandS.FStr
import HandS.Wide
import HandS.Small
import PyProof.StrBlock2
import HandS.TupMul
import PyProof.EqAt
import PyProof.EqKinds
import KE.LtSeq
import HandS.DictTup
import PyProof.FString5
import HandS.Zip
import KE.KeyNested
import KE.KDictKeyed
import KE.SortData
import KE.KDictCopyH
import PyProof.EnumIter
import HandS.Iter
import HandS.Star
import HandS.Walk
import HandS.SlotsOwn
import KE.GoesMore
import PyProof.ListNew
import HandS.OwnEq
import HandS.Style
import PyProof.AutoSeq1
import HandS.HeadWalk
import HandS.HeadHook4
import PySem.Challenge.RW_shownviews_k30_whole_showings_and_read
set_option Elab.async false
set_option linter.all false
set_option maxRecDepth 100000
set_option maxHeartbeats 0
namespace Sm
open PySem PySem.Spec PyProof.Rows L2
def top (i : Nat) : Stmt := PySem.Challenge.pw_shownviews_k30_whole_showings_and_read.main.body.getD i (.Pass ⟨0, 0, 0, 0⟩)
abbrev sHand : Stmt := top 73
abbrev sDraw : Stmt := top 74
abbrev sSome : Stmt := top 75
abbrev sInteger : Stmt := top 13
abbrev sWord : Stmt := top 15
abbrev sWorth : Stmt := top 16
abbrev sName : Stmt := top 17
abbrev sTupleOf : Stmt := top 18
abbrev sRow : Stmt := top 19
abbrev sPrime : Stmt := top 28
abbrev sText : Stmt := top 30
abbrev sFact : Stmt := top 32
abbrev sMixed : Stmt := top 31
abbrev sLMix : Stmt := top 78
abbrev sWorthText : Stmt := top 9
abbrev sLWorthText : Stmt := top 79
abbrev sTextOf : Stmt := top 33
abbrev sLFactText : Stmt := top 80
abbrev sLNumber : Stmt := top 81
abbrev sCkPrime : Stmt := top 29
abbrev sPrimeD : Stmt := top 89
abbrev sWorthD : Stmt := top 90
abbrev sFactD : Stmt := top 91
abbrev sWKey : Stmt := top 21
abbrev sRKey : Stmt := top 22
abbrev sFKey : Stmt := top 23
abbrev sRising : Stmt := top 20
abbrev sCkP : Stmt := top 29
abbrev sCkF : Stmt := top 71
abbrev sRank : Stmt := top 39
abbrev sNText : Stmt := top 34
abbrev sLRank : Stmt := top 82
abbrev sLText : Stmt := top 84
abbrev sLKey : Stmt := top 76
abbrev sSorted : Stmt := top 77
abbrev sStretch : Stmt := top 45
abbrev sBound : Stmt := top 46
abbrev sCkS : Stmt := top 47
abbrev sRB : Stmt := top 48
abbrev sRA : Stmt := top 49
abbrev sIn : Stmt := top 50
abbrev sBelow : Stmt := top 51
abbrev sAbove : Stmt := top 52
abbrev sShut : Stmt := top 53
abbrev sShutTo : Stmt := top 54
abbrev sIs : Stmt := top 96
abbrev sPText : Stmt := top 42
abbrev sPInit : Stmt := inClass (top 41) 0
abbrev sRPart : Stmt := inClass (top 43) 2
abbrev sItem : Stmt := inClass (top 43) 1
abbrev sTree : Stmt := inClass (top 43) 3
abbrev sRInit : Stmt := inClass (top 43) 0
abbrev sTInit : Stmt := inClass (top 70) 0
abbrev sPlaced : Stmt := inClass (top 41) 2
abbrev sShow : Stmt := top 58
abbrev sShown : Stmt := top 57
abbrev sLTree : Stmt := top 83
abbrev sLPair : Stmt := top 85
abbrev sLFs : Stmt := top 92
abbrev sLSide : Stmt := top 86
abbrev sLClosed : Stmt := top 87
abbrev sLShown : Stmt := top 88
abbrev sNumber : Stmt := top 14
abbrev sIsShow : Stmt := top 59
abbrev sIsCut : Stmt := top 60
abbrev sAreF : Stmt := top 61
abbrev sFactsIn : Stmt := top 62
abbrev sCInit : Stmt := inClass (top 56) 0
abbrev sPartIn : Stmt := top 64
abbrev sReadPart : Stmt := top 63
abbrev sRootOf : Stmt := top 65
abbrev sCkRoot : Stmt := top 66
abbrev sRead : Stmt := top 67
abbrev sEnough : Stmt := top 68
abbrev sHidden : Stmt := top 97
abbrev sLTold : Stmt := top 98
abbrev sLDue : Stmt := top 99
abbrev sLBound : Stmt := top 93
abbrev sLStr : Stmt := top 94
abbrev sLStrs : Stmt := top 95
abbrev sLaw : Stmt := top 100
def chk (K : PySem.W.Frag) : Bool :=
  He.eqO (PySem.W.findIn K (.ref (He.ga K "Part")) "__class__") (some (some (.builtin "object.__class__"))) &&
  (He.eqO (PySem.W.specialIn K (.builtin "object.__class__") "__get__") (some (some (.builtin "getset_descriptor.__get__"))) &&
  (decide (PySem.W.takesIn K (.builtin "object.__class__") = some true) &&
  (decide (PySem.W.mroIn K (He.ga K "Part") (.type "object") = some true) &&
  (He.eqO (PySem.W.findIn K (.ref (He.ga K "Cut")) "__class__") (some (some (.builtin "object.__class__"))) &&
  (decide (PySem.W.mroIn K (He.ga K "Cut") (.type "object") = some true) &&
  decide (PySem.W.kitOne K (.ref (He.ga K "Part")) (.ref (He.ga K "Cut")) = some false))))))
def dInteger : He.DefD := ⟨("is_integer", none), "is_integer", "is_integer", defArgs sInteger, defBody sInteger, defScope sInteger, [], []⟩
def dWord : He.DefD := ⟨("is_word", none), "is_word", "is_word", defArgs sWord, defBody sWord, defScope sWord, [], []⟩
def dWorth : He.DefD := ⟨("is_free_worth", none), "is_free_worth", "is_free_worth", defArgs sWorth, defBody sWorth, defScope sWorth, [], []⟩
def dName : He.DefD := ⟨("is_name", none), "is_name", "is_name", defArgs sName, defBody sName, defScope sName, [], []⟩
def dTupleOf : He.DefD := ⟨("is_tuple_of", none), "is_tuple_of", "is_tuple_of", defArgs sTupleOf, defBody sTupleOf, defScope sTupleOf, [], []⟩
def dRow : He.DefD := ⟨("is_free_row", none), "is_free_row", "is_free_row", defArgs sRow, defBody sRow, defScope sRow, [], []⟩
def dRising : He.DefD := ⟨("is_rising", none), "is_rising", "is_rising", defArgs sRising, defBody sRising, defScope sRising, [], []⟩
def dWKey : He.DefD := ⟨("worth_key", none), "worth_key", "worth_key", defArgs sWKey, defBody sWKey, defScope sWKey, [], []⟩
def dRKey : He.DefD := ⟨("row_key", none), "row_key", "row_key", defArgs sRKey, defBody sRKey, defScope sRKey, [], []⟩
def dFKey : He.DefD := ⟨("fact_key", none), "fact_key", "fact_key", defArgs sFKey, defBody sFKey, defScope sFKey, [], []⟩
def dPrime : He.DefD := ⟨("is_prime", none), "is_prime", "is_prime", defArgs sPrime, defBody sPrime, defScope sPrime, [], []⟩
def dCkP : He.DefD := ⟨("check_prime", none), "check_prime", "check_prime", defArgs sCkP, defBody sCkP, defScope sCkP, [], []⟩
def dText : He.DefD := ⟨("is_text", none), "is_text", "is_text", defArgs sText, defBody sText, defScope sText, [], []⟩
def dMixed : He.DefD := ⟨("mixed", none), "mixed", "mixed", defArgs sMixed, defBody sMixed, defScope sMixed, [], []⟩
def dFact : He.DefD := ⟨("is_fact", none), "is_fact", "is_fact", defArgs sFact, defBody sFact, defScope sFact, [], []⟩
def dWorthText : He.DefD := ⟨("worth_text", none), "worth_text", "worth_text", defArgs sWorthText, defBody sWorthText, defScope sWorthText, [], []⟩
def dTextOf : He.DefD := ⟨("text_of", none), "text_of", "text_of", defArgs sTextOf, defBody sTextOf, defScope sTextOf, [], []⟩
def dNText : He.DefD := ⟨("numbers_text", none), "numbers_text", "numbers_text", defArgs sNText, defBody sNText, defScope sNText, [], []⟩
def dRank : He.DefD := ⟨("rank_of", none), "rank_of", "rank_of", defArgs sRank, defBody sRank, defScope sRank, [], []⟩
def dPText : He.DefD := ⟨("part_text", none), "part_text", "part_text", defArgs sPText, defBody sPText, defScope sPText, [], []⟩
def dCkF : He.DefD := ⟨("check_facts", none), "check_facts", "check_facts", defArgs sCkF, defBody sCkF, defScope sCkF, [], []⟩
def dStretch : He.DefD := ⟨("is_stretch", none), "is_stretch", "is_stretch", defArgs sStretch, defBody sStretch, defScope sStretch, [], []⟩
def dBound : He.DefD := ⟨("is_bound", none), "is_bound", "is_bound", defArgs sBound, defBody sBound, defScope sBound, [], []⟩
def dCkS : He.DefD := ⟨("check_stretches", none), "check_stretches", "check_stretches", defArgs sCkS, defBody sCkS, defScope sCkS, [], []⟩
def dRB : He.DefD := ⟨("is_row_below", none), "is_row_below", "is_row_below", defArgs sRB, defBody sRB, defScope sRB, [], []⟩
def dRA : He.DefD := ⟨("is_row_above", none), "is_row_above", "is_row_above", defArgs sRA, defBody sRA, defScope sRA, [], []⟩
def dIn : He.DefD := ⟨("is_in", none), "is_in", "is_in", defArgs sIn, defBody sIn, defScope sIn, [], []⟩
def dBelow : He.DefD := ⟨("is_below", none), "is_below", "is_below", defArgs sBelow, defBody sBelow, defScope sBelow, [], []⟩
def dAbove : He.DefD := ⟨("is_above", none), "is_above", "is_above", defArgs sAbove, defBody sAbove, defScope sAbove, [], []⟩
def dShut : He.DefD := ⟨("is_shut", none), "is_shut", "is_shut", defArgs sShut, defBody sShut, defScope sShut, [], []⟩
def dShutTo : He.DefD := ⟨("is_shut_to", none), "is_shut_to", "is_shut_to", defArgs sShutTo, defBody sShutTo, defScope sShutTo, [], []⟩
def dShown : He.DefD := ⟨("shown", none), "shown", "shown", defArgs sShown, defBody sShown, defScope sShown, [], []⟩
def dShow : He.DefD := ⟨("showing_of", none), "showing_of", "showing_of", defArgs sShow, defBody sShow, defScope sShow, [], []⟩
def dHand : He.DefD := ⟨("_law_hand", none), "_law_hand", "_law_hand", defArgs sHand, defBody sHand, defScope sHand, [], []⟩
def dDraw : He.DefD := ⟨("_law_draw", none), "_law_draw", "_law_draw", defArgs sDraw, defBody sDraw, defScope sDraw, [], []⟩
def dSome : He.DefD := ⟨("_law_some", none), "_law_some", "_law_some", defArgs sSome, defBody sSome, defScope sSome, [], []⟩
def dLKey : He.DefD := ⟨("_law_key", none), "_law_key", "_law_key", defArgs sLKey, defBody sLKey, defScope sLKey, [], []⟩
def dSorted : He.DefD := ⟨("_law_sorted", none), "_law_sorted", "_law_sorted", defArgs sSorted, defBody sSorted, defScope sSorted, [], []⟩
def dLMix : He.DefD := ⟨("_law_mix", none), "_law_mix", "_law_mix", defArgs sLMix, defBody sLMix, defScope sLMix, [], []⟩
def dLWorthText : He.DefD := ⟨("_law_worth_text", none), "_law_worth_text", "_law_worth_text", defArgs sLWorthText, defBody sLWorthText, defScope sLWorthText, [], []⟩
def dLFactText : He.DefD := ⟨("_law_fact_text", none), "_law_fact_text", "_law_fact_text", defArgs sLFactText, defBody sLFactText, defScope sLFactText, [], []⟩
def dLNumber : He.DefD := ⟨("_law_number", none), "_law_number", "_law_number", defArgs sLNumber, defBody sLNumber, defScope sLNumber, [], []⟩
def dLRank : He.DefD := ⟨("_law_rank", none), "_law_rank", "_law_rank", defArgs sLRank, defBody sLRank, defScope sLRank, [], []⟩
def dLTree : He.DefD := ⟨("_law_tree", none), "_law_tree", "_law_tree", defArgs sLTree, defBody sLTree, defScope sLTree, [], []⟩
def dLText : He.DefD := ⟨("_law_list_text", none), "_law_list_text", "_law_list_text", defArgs sLText, defBody sLText, defScope sLText, [], []⟩
def dLPair : He.DefD := ⟨("_law_pair", none), "_law_pair", "_law_pair", defArgs sLPair, defBody sLPair, defScope sLPair, [], []⟩
def dPrimeD : He.DefD := ⟨("_law_prime", none), "_law_prime", "_law_prime", defArgs sPrimeD, defBody sPrimeD, defScope sPrimeD, [], []⟩
def dWorthD : He.DefD := ⟨("_law_worth", none), "_law_worth", "_law_worth", defArgs sWorthD, defBody sWorthD, defScope sWorthD, [], []⟩
def dFactD : He.DefD := ⟨("_law_fact", none), "_law_fact", "_law_fact", defArgs sFactD, defBody sFactD, defScope sFactD, [], []⟩
def dLFs : He.DefD := ⟨("_law_facts", none), "_law_facts", "_law_facts", defArgs sLFs, defBody sLFs, defScope sLFs, [], []⟩
def dIs : He.DefD := ⟨("_law_is", none), "_law_is", "_law_is", defArgs sIs, defBody sIs, defScope sIs, [], []⟩
def dNumber : He.DefD := ⟨("is_number", none), "is_number", "is_number", defArgs sNumber, defBody sNumber, defScope sNumber, [], []⟩
def dIsShow : He.DefD := ⟨("is_showing", none), "is_showing", "is_showing", defArgs sIsShow, defBody sIsShow, defScope sIsShow, [], []⟩
def dIsCut : He.DefD := ⟨("is_cut", none), "is_cut", "is_cut", defArgs sIsCut, defBody sIsCut, defScope sIsCut, [], []⟩
def dAreF : He.DefD := ⟨("are_facts", none), "are_facts", "are_facts", defArgs sAreF, defBody sAreF, defScope sAreF, [], []⟩
def dFactsIn : He.DefD := ⟨("facts_in", none), "facts_in", "facts_in", defArgs sFactsIn, defBody sFactsIn, defScope sFactsIn, [], []⟩
def dReadPart : He.DefD := ⟨("read_part", none), "read_part", "read_part", defArgs sReadPart, defBody sReadPart, defScope sReadPart, [], []⟩
def dPartIn : He.DefD := ⟨("part_in", none), "part_in", "part_in", defArgs sPartIn, defBody sPartIn, defScope sPartIn, [], []⟩
def dRootOf : He.DefD := ⟨("root_of", none), "root_of", "root_of", defArgs sRootOf, defBody sRootOf, defScope sRootOf, [], []⟩
def dCkRoot : He.DefD := ⟨("check_root", none), "check_root", "check_root", defArgs sCkRoot, defBody sCkRoot, defScope sCkRoot, [], []⟩
def dRead : He.DefD := ⟨("read", none), "read", "read", defArgs sRead, defBody sRead, defScope sRead, [], []⟩
def dEnough : He.DefD := ⟨("is_enough", none), "is_enough", "is_enough", defArgs sEnough, defBody sEnough, defScope sEnough, [], []⟩
def dLSide : He.DefD := ⟨("_law_side", none), "_law_side", "_law_side", defArgs sLSide, defBody sLSide, defScope sLSide, [], []⟩
def dLClosed : He.DefD := ⟨("_law_is_closed", none), "_law_is_closed", "_law_is_closed", defArgs sLClosed, defBody sLClosed, defScope sLClosed, [], []⟩
def dLShown : He.DefD := ⟨("_law_shown", none), "_law_shown", "_law_shown", defArgs sLShown, defBody sLShown, defScope sLShown, [], []⟩
def dLBound : He.DefD := ⟨("_law_bound", none), "_law_bound", "_law_bound", defArgs sLBound, defBody sLBound, defScope sLBound, [], []⟩
def dLStr : He.DefD := ⟨("_law_stretch", none), "_law_stretch", "_law_stretch", defArgs sLStr, defBody sLStr, defScope sLStr, [], []⟩
def dLStrs : He.DefD := ⟨("_law_stretches", none), "_law_stretches", "_law_stretches", defArgs sLStrs, defBody sLStrs, defScope sLStrs, [], []⟩
def dHidden : He.DefD := ⟨("_law_is_hidden", none), "_law_is_hidden", "_law_is_hidden", defArgs sHidden, defBody sHidden, defScope sHidden, [], []⟩
def dLTold : He.DefD := ⟨("_law_told_facts", none), "_law_told_facts", "_law_told_facts", defArgs sLTold, defBody sLTold, defScope sLTold, [], []⟩
def dLDue : He.DefD := ⟨("_law_due", none), "_law_due", "_law_due", defArgs sLDue, defBody sLDue, defScope sLDue, [], []⟩
def dLaw : He.DefD := ⟨("law", none), "law", "law", defArgs sLaw, defBody sLaw, defScope sLaw, [], []⟩
def mPInit : He.DefD := ⟨("Part", some "__init__"), "__init__", "Part.__init__", defArgs sPInit, defBody sPInit, defScope sPInit, [], []⟩
def mPlaced : He.DefD := ⟨("Part", some "placed"), "placed", "Part.placed", defArgs sPlaced, defBody sPlaced, defScope sPlaced, [], []⟩
def mRInit : He.DefD := ⟨("Reckoner", some "__init__"), "__init__", "Reckoner.__init__", defArgs sRInit, defBody sRInit, defScope sRInit, [], []⟩
def mItem : He.DefD := ⟨("Reckoner", some "item"), "item", "Reckoner.item", defArgs sItem, defBody sItem, defScope sItem, [], []⟩
def mRPart : He.DefD := ⟨("Reckoner", some "part"), "part", "Reckoner.part", defArgs sRPart, defBody sRPart, defScope sRPart, [], []⟩
def mTree : He.DefD := ⟨("Reckoner", some "tree"), "tree", "Reckoner.tree", defArgs sTree, defBody sTree, defScope sTree, [], []⟩
def mTInit : He.DefD := ⟨("Tree", some "__init__"), "__init__", "Tree.__init__", defArgs sTInit, defBody sTInit, defScope sTInit, [], []⟩
def mCInit : He.DefD := ⟨("Cut", some "__init__"), "__init__", "Cut.__init__", defArgs sCInit, defBody sCInit, defScope sCInit, [], []⟩
def fn : List He.DefD := [dInteger, dWord, dWorth, dName, dTupleOf, dRow, dRising, dWKey, dRKey, dFKey, dPrime, dCkP, dText, dMixed, dFact, dWorthText, dTextOf, dNText, dRank, dPText, dCkF, dStretch, dBound, dCkS, dRB, dRA, dIn, dBelow, dAbove, dShut, dShutTo, dShown, dShow, dHand, dDraw, dSome, dLKey, dSorted, dLMix, dLWorthText, dLFactText, dLNumber, dLRank, dLTree, dLText, dLPair, dPrimeD, dWorthD, dFactD, dLFs, dIs, dNumber, dIsShow, dIsCut, dAreF, dFactsIn, dReadPart, dPartIn, dRootOf, dCkRoot, dRead, dEnough, dLSide, dLClosed, dLShown, dLBound, dLStr, dLStrs, dHidden, dLTold, dLDue, dLaw, mPInit, mPlaced, mRInit, mItem, mRPart, mTree, mTInit, mCInit]
def fa : List He.Fa := [.glo "is_integer", .glo "is_word", .glo "is_free_worth", .glo "is_name", .glo "is_tuple_of", .glo "is_free_row", .glo "is_rising", .glo "worth_key", .glo "row_key", .glo "fact_key", .glo "is_prime", .glo "check_prime", .glo "is_text", .glo "mixed", .glo "is_fact", .glo "worth_text", .glo "text_of", .glo "numbers_text", .glo "rank_of", .glo "part_text", .glo "check_facts", .glo "is_stretch", .glo "is_bound", .glo "check_stretches", .glo "is_row_below", .glo "is_row_above", .glo "is_in", .glo "is_below", .glo "is_above", .glo "is_shut", .glo "is_shut_to", .glo "shown", .glo "showing_of", .glo "_law_hand", .glo "_law_draw", .glo "_law_some", .glo "_law_key", .glo "_law_sorted", .glo "_law_mix", .glo "_law_worth_text", .glo "_law_fact_text", .glo "_law_number", .glo "_law_rank", .glo "_law_tree", .glo "_law_list_text", .glo "_law_pair", .glo "_law_prime", .glo "_law_worth", .glo "_law_fact", .glo "_law_facts", .glo "_law_is", .glo "is_number", .glo "is_showing", .glo "is_cut", .glo "are_facts", .glo "facts_in", .glo "read_part", .glo "part_in", .glo "root_of", .glo "check_root", .glo "read", .glo "is_enough", .glo "_law_side", .glo "_law_is_closed", .glo "_law_shown", .glo "_law_bound", .glo "_law_stretch", .glo "_law_stretches", .glo "_law_is_hidden", .glo "_law_told_facts", .glo "_law_due", .glo "law", .glo "Part", .glo "Reckoner", .glo "Tree", .glo "Cut", .free "abs", .free "int", .free "len", .free "isinstance", .free "all", .free "zip", .free "range", .free "ord", .free "bool", .free "tuple", .free "list", .free "str", .free "max", .free "sum", .free "enumerate", .free "dict", .free "sorted", .free "set", .free "any", .int "LONGEST_WORD" 20, .int "LONGEST_NAME" 8, .int "LEAST_PRIME" 1000, .int "GREATEST_PRIME" 170141183460469231731687303715884105728, .int "BEFORE_BLANK" 31, .int "GREATEST_RANK" 6, .int "LEAF" 1, .int "NODE" 2, .cls "Part", .cls "Reckoner", .cls "Tree", .cls "Cut", .mkr "Part", .mkr "Reckoner", .mkr "Tree", .mkr "Cut", .noat "Part" "children", .noat "Part" "own", .noat "Part" "numbers", .noat "Part" "rank", .noat "Part" "many", .noat "Part" "number", .noat "Reckoner" "made", .noat "Reckoner" "_p", .noat "Cut" "number", .noat "Cut" "many", .noat "Tree" "_top", .noat "Tree" "_many_made", .noat "Tree" "p", .noat "Tree" "facts", .noat "Tree" "many", .noat "Tree" "number", .meth "Part" "placed", .meth "Reckoner" "item", .meth "Reckoner" "part", .meth "Reckoner" "tree"]
def refsF (o : Obj) : List Addr := match o.data with
  | .func fd => He.refV fd.code ++ He.refV fd.defaults ++ He.refV fd.kwdefaults ++ fd.closure.map (·.2)
  | .cls cd => [cd.ns]
  | .dict es _ => es.toList.flatMap fun e => He.refV e.val
  | .seq its _ => its.toList.flatMap He.refV
  | .fields vs => vs.toList.flatMap He.refV
  | _ => []
def nxF (g : Addr → Option Obj) (as : List Addr) : List Addr := as.flatMap fun a => match g a with
  | some o => refsF o
  | none => []
def asF (g : Addr → Option Obj) : Nat → List Addr → List Addr
  | 0, as => as
  | n + 1, as => as ++ asF g n (nxF g as)
def obs (g : Addr → Option Obj) : Bool × He.AlD := (chk (He.frG g (asF g 4 [mainGlobals])), He.obsD fa fn (He.frG g (asF g 4 [mainGlobals])))
def hk : PySem.W.Hook where
  α := Bool × He.AlD
  obs := fun s => obs s.heap.get?
  val := fun _ => (true, He.valD fn)
  says := fun _ h => ∃ K : PySem.W.Frag, K.In h ∧ chk K = true ∧ He.SaysD fa fn K
  of := fun _ _ e => ⟨_, He.frG_in, congrArg (fun z : Bool × He.AlD => z.1) e, congrArg (fun z : Bool × He.AlD => z.2) e⟩
  keeps := fun _ _ _ ⟨K, hK, c⟩ k => ⟨K, PySem.W.Frag.In.keeps hK k, c⟩
def ob (s : PySem.W.SharedT) : Bool × He.AlD := obs (HandSHeadRun.getT s)
theorem ob_eq (s : PySem.W.SharedT) : ob s = hk.obs s.abs := by
  show obs (HandSHeadRun.getT s) = obs s.abs.heap.get?
  rw [show HandSHeadRun.getT s = s.abs.heap.get? from funext (HandSHeadRun.getT_eq s)]
end Sm
namespace Sm
open PySem PySem.Spec PyProof.Rows L2
abbrev R : PySem.W.OpenRow := PySem.W.OpenLaw.row PySem.Challenge.rw_shownviews_k30_whole_showings_and_read
def loose0 : List Str := ["_wall", "ViewError", "NoFacts", "NoPrime", "NoRoot", "NoShowing", "NoStretch", "worth_text", "LONGEST_WORD", "LONGEST_NAME", "is_integer", "is_number", "is_word", "is_free_worth", "is_name", "is_tuple_of", "is_free_row", "is_rising", "worth_key", "row_key"]
def loose1 : List Str := ["fact_key", "LEAST_PRIME", "GREATEST_PRIME", "BEFORE_BLANK", "is_prime", "check_prime", "is_text", "mixed", "is_fact", "text_of", "numbers_text", "GREATEST_RANK", "LEAF", "NODE", "rank_of", "place_among", "Part", "part_text", "Reckoner", "is_stretch"]
def loose2 : List Str := ["is_bound", "check_stretches", "is_row_below", "is_row_above", "is_in", "is_below", "is_above", "is_shut", "is_shut_to", "Cut", "shown", "showing_of", "is_showing", "is_cut", "are_facts", "facts_in", "read_part", "part_in", "root_of", "check_root"]
def loose3 : List Str := ["read", "is_enough", "Tree", "check_facts", "_law_hand", "_law_draw", "_law_some", "_law_key", "_law_sorted", "_law_mix", "_law_worth_text", "_law_fact_text", "_law_number", "_law_rank", "_law_tree", "_law_list_text", "_law_pair", "_law_side", "_law_is_closed", "_law_shown"]
def loose4 : List Str := ["_law_prime", "_law_worth", "_law_fact", "_law_facts", "_law_bound", "_law_stretch", "_law_stretches", "_law_is", "_law_is_hidden", "_law_told_facts", "_law_due"]
abbrev loose : List Str := loose0 ++ loose1 ++ loose2 ++ loose3 ++ loose4
theorem run (w : World) : HandSHeadRun.RunEq R (PySem.W.view R.prog [100]) hk ob 20000 loose w := by
  intro os
  kernel_rfl
end Sm
/-! Exceptions of the program's own classes as values: made, asked by isinstance, their fields read. -/
namespace Xv
open PySem PySem.Spec PyProof.Rows L2
/-! ### a class, by one look at the written part -/
def oexB (K : PySem.W.Frag) (C : Addr) : Bool := match K.lookup C with
  | some ⟨.type t, _, .cls cd, sl⟩ => (match cd.mro, sl.toList with
    | .ref C' :: bm, [_, _, _, _, some (.builtin n), _] => decide (t = "type") && (decide (C' = C) && (decide (n = "ValueError.__new__") && (!cd.hasDel && (cd.hasDict && PySem.HandSPX.refsVE bm))))
    | _, _ => false)
  | _ => false
def xclB (K : PySem.W.Frag) (C : Addr) : Bool := oexB K C && (He.eqO (PySem.W.findIn K (.ref C) "__setattr__") (some (some (.builtin "object.__setattr__"))) && (decide (PySem.W.subIn K (.ref C) (.type "BaseException") = some true) && (decide (PySem.W.typeIn K (.ref C) = some (.type "type")) &&
  (PySem.W.keepIn K (.ref C) && ((PySem.W.clsIn K C).isSome && (He.eqO (PySem.W.findIn K (.ref C) "__getattribute__") (some (some (.builtin "BaseException.__getattribute__"))) && (He.eqO (PySem.W.findIn K (.ref C) "__getattr__") (some none) &&
  (He.eqO (PySem.W.findIn K (.ref C) "__class__") (some (some (.builtin "object.__class__"))) && (decide (PySem.W.mroIn K C (.type "object") = some true) && (PySem.W.hasDictIn K C &&
  (He.eqO (PySem.W.specialIn K (.builtin "object.__class__") "__get__") (some (some (.builtin "getset_descriptor.__get__"))) && decide (PySem.W.takesIn K (.builtin "object.__class__") = some true))))))))))))
structure XCl (K : PySem.W.Frag) (C : Addr) : Prop where
  oex : OexC K C
  cl : (PySem.W.clsIn K C).isSome = true
  ga : PySem.W.findIn K (.ref C) "__getattribute__" = some (some (.builtin "BaseException.__getattribute__"))
  gt : PySem.W.findIn K (.ref C) "__getattr__" = some none
  ca : PySem.W.findIn K (.ref C) "__class__" = some (some (.builtin "object.__class__"))
  mo : PySem.W.mroIn K C (.type "object") = some true
  hd : PySem.W.hasDictIn K C = true
  gn : PySem.W.specialIn K (.builtin "object.__class__") "__get__" = some (some (.builtin "getset_descriptor.__get__"))
  tk : PySem.W.takesIn K (.builtin "object.__class__") = some true
theorem xcl_ok {K : PySem.W.Frag} {C : Addr} (h : xclB K C = true) : XCl K C := by
  obtain ⟨h1, h⟩ := He.ba h
  obtain ⟨h2, h⟩ := He.ba h
  obtain ⟨h3, h⟩ := He.ba h
  obtain ⟨h4, h⟩ := He.ba h
  obtain ⟨h5, h⟩ := He.ba h
  obtain ⟨h6, h⟩ := He.ba h
  obtain ⟨h7, h⟩ := He.ba h
  obtain ⟨h8, h⟩ := He.ba h
  obtain ⟨h9, h⟩ := He.ba h
  obtain ⟨h10, h⟩ := He.ba h
  obtain ⟨h11, h⟩ := He.ba h
  obtain ⟨h12, h13⟩ := He.ba h
  refine ⟨⟨?_, He.eqO_ok h2, of_decide_eq_true h3, of_decide_eq_true h4, h5⟩, h6, He.eqO_ok h7, He.eqO_ok h8, He.eqO_ok h9, of_decide_eq_true h10, h11, He.eqO_ok h12, of_decide_eq_true h13⟩
  unfold oexB at h1
  split at h1
  case h_2 => cases h1
  case h_1 t dd cd sl ho =>
    split at h1
    case h_2 => cases h1
    case h_1 C' bm k0 k1 k2 k3 n k5 hm hs =>
      obtain ⟨a1, h1⟩ := He.ba h1
      obtain ⟨a2, h1⟩ := He.ba h1
      obtain ⟨a3, h1⟩ := He.ba h1
      obtain ⟨a4, h1⟩ := He.ba h1
      obtain ⟨a5, a6⟩ := He.ba h1
      have e1 := of_decide_eq_true a1
      have e2 := of_decide_eq_true a2
      have e3 := of_decide_eq_true a3
      subst e1 e2 e3
      obtain ⟨nm, bs, mro, ns, qn, hd, sn, sub, ab, col, del⟩ := cd
      dsimp only at hm a4 a5
      have e4 : del = false := by cases del <;> first | rfl | cases a4
      subst hm e4 a5
      have e5 : sl = #[k0, k1, k2, k3, some (.builtin "ValueError.__new__"), k5] := by
        obtain ⟨l⟩ := sl
        dsimp only at hs
        rw [hs]
      subst e5
      exact ⟨nm, qn, ns, bs, bm, sn, sub, ab, col, dd, k0, k1, k2, k3, k5, ho, a6⟩
/-- an exception stands at a: its class C, its fields (none: it has no dict) -/
def XAt (H : Hp) (a C : Addr) : Option (List (Str × V)) → Prop
  | none => H a = some (exo a C none)
  | some fs => ∃ dx, H a = some (exo a C (some dx)) ∧ H dx = some (exd dx fs)
theorem XAt.same {H H' : Hp} {a C : Addr} {fs : Option (List (Str × V))} (h : XAt H a C fs) (k : ∀ b o, H b = some o → H' b = some o) : XAt H' a C fs := by
  cases fs with
  | none => exact k _ _ h
  | some fs =>
    obtain ⟨dx, h1, h2⟩ := h
    exact ⟨dx, k _ _ h1, k _ _ h2⟩
theorem XAt.get {P : Program} {w : World} {H : Hp} {h : Heap} {a C : Addr} {fs : Option (List (Str × V))} (x : XAt H a C fs) (ok : HOk P w H h) : ∃ ox od, PySem.W.InstAt h a ox C od := by
  cases fs with
  | none =>
    obtain ⟨t1, e⟩ := exo_at ok x
    exact ⟨_, none, e, rfl, rfl, trivial⟩
  | some fs =>
    obtain ⟨dx, h1, h2⟩ := x
    obtain ⟨t1, e⟩ := exo_at ok h1
    obtain ⟨mA, hn, _⟩ := exd_at ok h2
    obtain ⟨od, ho, _⟩ := lookIn_ns hn
    exact ⟨_, some od, e, rfl, rfl, ho⟩
section
variable {X : Cx}
/-! ### isinstance -/
def rIsX (K : PySem.W.Frag) : List V → Hp → VK → Prop := fun xs H Q => ∃ (a C : Addr) (fs : Option (List (Str × V))) (c : V) (u : Value) (b : Bool), xs = [.ref a, c] ∧ ClsV c u ∧ XAt H a C fs ∧ XCl K C ∧ PySem.W.kitOne K (.ref C) u = some b ∧ Q (.bl b) H
theorem call_isX : CallR X (.builtin "isinstance") (rIsX X.K) := by
  intro pins s σ H xs us Q I r h
  obtain ⟨a, C, fs, c, u, b, rfl, k, xa, T, e, q⟩ := h
  obtain ⟨u1, u2, rfl, r1, r2⟩ := vals2 r
  have e2 := k.eq r2
  subst e2
  cases (show u1 = Value.ref a from r1)
  obtain ⟨ox, od, J⟩ := xa.get I.hok
  exact PySem.W.kia_one (PySem.W.kitx_exc (x := a) (od := od) T.cl T.ga T.gt T.oex.exC T.ca T.gn T.tk T.mo) I.kIn J e (fun z => nomatch z) fun tk => ⟨.bl b, H, I.tok tk, rfl, q⟩
/-! ### a field -/
def tXf (K : PySem.W.Frag) (f : Str) (te : TE) : TE := fun σ H Q => te σ H fun x H1 => ∃ (a C : Addr) (fs : List (Str × V)) (v : V), x = .ref a ∧ XAt H1 a C (some fs) ∧ XCl K C ∧ PySem.W.findIn K (.ref C) f = some none ∧ fs.lookup f = some v ∧ Q v H1
theorem pe_xf {e : Expr} {te : TE} {f : Str} {pos : Pos} (he : PE X e te) (hb : attributeBase e f X.env (eval e X.env) = eval e X.env := by rfl) : PE X (.Attribute e f pos) (tXf X.K f te) := by
  refine ⟨fun pins s σ H Q I h => ?_⟩
  refine attr_of hb (thn (he.run pins s σ H _ I h) fun u s1 hh => ?_)
  obtain ⟨x, H1, I1, rx, a, C, fs, v, ex, xa, T, hno, el, q⟩ := hh
  subst ex
  obtain rfl : u = Value.ref a := rx
  obtain ⟨dx, h1, h2⟩ := xa
  obtain ⟨t1, eo⟩ := exo_at I1.hok h1
  obtain ⟨mA, hn, hr⟩ := exd_at I1.hok h2
  obtain ⟨od, ho, hl⟩ := lookIn_ns hn
  obtain ⟨u, hu, ru⟩ := RelO.some_of (v := v) (o := mA f) (by rw [← el]; exact hr f)
  have J : PySem.W.InstAt s1.heap a { cls := .ref C, dict := some dx, data := .fields #[.ref t1, .none, .none, .none, .bool false, .none] } C (some od) := ⟨eo, rfl, rfl, ho⟩
  exact HandSPX.exc_get I1.kIn J T.ga T.gt T.oex.exC (PySem.W.findObj_own T.hd hno rfl (by rw [hl, hu])) (handed_of ru) ⟨v, H1, I1.tok _, ru, q⟩
/-! ### made -/
def tXm (C : Addr) (sp : Sp) (ta : TA) : TE := fun σ H Q => ta σ H fun vs H1 => ∀ a, H1 a = none → sp (.ref a :: vs) (upd H1 a (exo a C none)) (fun v H2 => v = .non ∧ Q (.ref a) H2) E0
theorem xmade {pins : List (Addr × Obj)} {σ : L2.St} {H1 : Hp} {s1 : Shared} {Q : VK} {C fI : Addr} {k : Nat} {fd : FuncData} {ps : List Str} {sp : Sp} {vs : List V} {us : List Value} (T : OexC X.K C) (iC : PySem.W.findIn X.K (.ref C) "__init__" = some (some (.ref fI)))
    (tI : PySem.W.typeIn X.K (.ref fI) = some (.type "function")) (F1 : FnOk X.prog X.w X.K X.mg X.base CX0 k fI fd ps sp) (hr : Room (k + 1) X.A) (hb : Binds X.K fd ps []) (I1 : Inv X pins σ H1 s1) (r1 : Vals vs us) (hz : us.length ≤ sizeLine)
    (q1 : ∀ a, H1 a = none → sp (.ref a :: vs) (upd H1 a (exo a C none)) (fun v H2 => v = .non ∧ Q (.ref a) H2) E0) : wpAny (model X.prog X.w) X.A (call (.ref C) us) (EP X pins σ Q) X.xe s1 := by
  obtain ⟨nm, qn, N, bs, bm, sn, sub, ab, col, dd, k0, k1, k2, k3, k5, hC, hbm⟩ := T.cls
  obtain ⟨hp, g, dr, tk, os⟩ := s1
  have hsz : hp.objs.size ≤ hp.objs.size + 1 := Nat.le_succ _
  have hn : H1 (hp.objs.size + 1) = none := I1.hok.fresh hsz
  have hq := q1 _ hn
  have kk : ∀ b o, hp.get? b = some o → ((hp.push (PySem.W.kdv_tup us)).push (PySem.HandSPX.excO C hp.objs.size)).get? b = some o := fun b o z =>
    Heap.get?_push_of_some _ (Heap.get?_push_of_some _ z)
  have hg2 : ((hp.push (PySem.W.kdv_tup us)).push (PySem.HandSPX.excO C hp.objs.size)).get? (hp.objs.size + 1) = some (PySem.HandSPX.excO C hp.objs.size) := by heap_get
  have I2 := I1.laid (t' := tk) (a := hp.objs.size + 1) (o := exo (hp.objs.size + 1) C none) (h' := (hp.push (PySem.W.kdv_tup us)).push (PySem.HandSPX.excO C hp.objs.size)) kk hsz (exo_ok hg2)
  have r2 : Vals (V.ref (hp.objs.size + 1) :: vs) (Value.ref (hp.objs.size + 1) :: us) := .cons rfl r1
  have hl : ((Value.ref (hp.objs.size + 1) :: us) ++ []).length = ps.length := by
    rw [List.append_nil, ← r2.length]
    exact F1.len _ _ _ _ hq
  have hb2 := hb _ (Value.ref (hp.objs.size + 1) :: us) I2.kIn hl
  rw [List.append_nil] at hb2
  refine wpAny_call (PySem.HandSPX.call_own F.excBase_ValueError (fun Y => PySem.HandSPX.refsVE_contains Y bm hbm) (I1.kIn _ _ hC) (PySem.W.looks_findIn I1.kIn iC) (fun self => PySem.W.bind_fn I1.kIn self tI) hz ?_)
  refine codeAny_mono (F1.run _ X.stack _ _ ⟨_, []⟩ _ _ _ _ (hr.make C us []) (I2.env0.make C us []) hb2 r2 hq) fun r s' hq' => ?_
  cases r with
  | error er => exact hq'.elim
  | ok fl =>
    cases fl with
    | ret u =>
      obtain ⟨v, H2, os2, bare2, un2, hok2, rv, ev, q2⟩ := hq'
      subst ev
      exact ⟨rv, .ref (hp.objs.size + 1), H2, I2.call' (ch := []) os2 un2 hok2 bare2 (fun b z => absurd z (by simp)), rfl, q2⟩
    | next => exact False.elim hq'
    | brk => exact False.elim hq'
    | cont => exact False.elim hq'
theorem pe_xm {x : Str} {C fI : Addr} {k j : Nat} {fd : FuncData} {ps : List Str} {sp : Sp} {e : Expr} {es : List Expr} {ta : TA} {p pos : Pos} (T : OexC X.K C) (iC : PySem.W.findIn X.K (.ref C) "__init__" = some (some (.ref fI))) (tI : PySem.W.typeIn X.K (.ref fI) = some (.type "function"))
    (F1 : FnOk X.prog X.w X.K X.mg X.base CX0 k fI fd ps sp) (hr : Room j X.A) (hj : k + 1 ≤ j) (hb : Binds X.K fd ps []) (hm : X.mg x = some (.ref C)) (ha : PA X (e :: es) ta) (hg : Gl X x := by rfl)
    (hdb : (x == ("__debug__" : Str)) = false := by decide) (he : starEach (e :: es) X.env = (false, eval e X.env) :: starEach es X.env := by rfl) (hpl : (backTo pos (starEach es X.env)).any (·.1) = false := by rfl)
    (hz : ps.length ≤ 1000 := by decide) : PE X (.Call (.Name x p) (e :: es) [] pos) (tXm C sp ta) := by
  refine ⟨fun pins s σ H Q I h => ?_⟩
  refine wpAny_Call_Name_kw (ld_glob I hg hm ?_ hdb)
  refine PySem.W.callWith_K (h₀ := X.base) I.ok.mod.kin T.kC (thn (ha.run pos pins s σ H _ I h) fun us s1 ⟨vs, H1, I1, r1, q1⟩ => ⟨I1.kIn, ?_⟩) he hpl
  have hn : H1 (s1.heap.objs.size) = none := I1.hok.fresh (Nat.le_refl _)
  have hl := F1.len _ _ _ _ (q1 _ hn)
  refine xmade T iC tI F1 (hr.mono hj) hb I1 r1 ?_ q1
  show us.length ≤ sizeLine
  rw [← r1.length, sizeLine_eq]
  have e1 : vs.length + 1 = ps.length := hl
  omega
theorem pe_xm0 {x : Str} {C fI : Addr} {k j : Nat} {fd : FuncData} {ps : List Str} {sp : Sp} {p pos : Pos} (T : OexC X.K C) (iC : PySem.W.findIn X.K (.ref C) "__init__" = some (some (.ref fI))) (tI : PySem.W.typeIn X.K (.ref fI) = some (.type "function"))
    (F1 : FnOk X.prog X.w X.K X.mg X.base CX0 k fI fd ps sp) (hr : Room j X.A) (hj : k + 1 ≤ j) (hb : Binds X.K fd ps []) (hm : X.mg x = some (.ref C)) (hg : Gl X x := by rfl) (hdb : (x == ("__debug__" : Str)) = false := by decide) :
    PE X (.Call (.Name x p) [] [] pos) (tXm C sp tNil) := by
  refine ⟨fun pins s σ H Q I h => ?_⟩
  refine wpAny_Call_Name_kw (ld_glob I hg hm ?_ hdb)
  exact PySem.W.callWith_K0 I.kIn T.kC (xmade (us := []) T iC tI F1 (hr.mono hj) hb I .nil (Nat.zero_le _) h)
end
end Xv
namespace Sm
open PySem PySem.Spec PyProof.Rows L2
abbrev FnP (K : PySem.W.Frag) (x : Str) (st : Stmt) (f : Addr) (fd : FuncData) : Prop := FunD K x x (defArgs st) (defBody st) (defScope st) [] [] f fd
theorem tst {c : Bool} {A B : Prop} (h1 : c = true → A) (h2 : c = false → B) : if c = true then A else B := by
  cases c with
  | true => exact iteT (h1 rfl)
  | false => exact iteF (h2 rfl)
theorem mod64 (x : Int) {m : Int} (h : 0 < m) (h2 : m < 2 ^ 62) : -(2 ^ 64) < x % m ∧ x % m < 2 ^ 64 := by
  have h1 := Int.emod_nonneg x (show m ≠ 0 by omega)
  have h3 := Int.emod_lt_of_pos x h
  exact ⟨by omega, by omega⟩
/-- all but the object at a is as it was -/
def Keep (a : Addr) (H H' : Hp) : Prop := ∀ b o, b ≠ a → H b = some o → H' b = some o
theorem Keep.refl {a : Addr} {H : Hp} : Keep a H H := fun _ _ _ h => h
theorem Keep.trans {a : Addr} {H H1 H2 : Hp} (x : Keep a H H1) (y : Keep a H1 H2) : Keep a H H2 := fun b o n h => y b o n (x b o n h)
theorem Keep.upd {a : Addr} {H H1 : Hp} {o : HO} (x : Keep a H H1) : Keep a H (upd H1 a o) := fun b u n h => by
  rw [upd_ne n]
  exact x b u n h
theorem Keep.new {a p : Addr} {H H1 : Hp} {o : HO} (x : Keep a H H1) (hp : H p = none) : Keep a H (L2.upd H1 p o) := fun b u n h => by
  rw [upd_ne (ne_of_none h hp)]
  exact x b u n h
/-- the hand of the draws: what stands at a -/
structure Hand (H : Hp) (a c : Addr) (cs : List Int) (i b sd n : Int) : Prop where
  at_ : H a = some (.lst [.ref c, .int i, .int b, .int sd, .int n])
  cells : H c = some (.lst (cs.map V.int))
  len : cs.length ≤ 63
  pos : ∀ x ∈ cs, 0 ≤ x
  i0 : 0 ≤ i
  b0 : 0 ≤ b
  s0 : 0 ≤ sd
  n0 : 0 ≤ n
def HandC (H : Hp) (a c : Addr) : Prop := ∃ cs i b sd n, Hand H a c cs i b sd n
def HandP (H : Hp) (a : Addr) : Prop := ∃ c, HandC H a c
theorem Hand.ne {H : Hp} {a c : Addr} {cs : List Int} {i b sd n : Int} (h : Hand H a c cs i b sd n) : c ≠ a := ne_of h.cells h.at_ (by
  intro z
  injection z with z
  cases cs with
  | nil => cases z
  | cons x r => cases z)
theorem HandP.keep {a p : Addr} {H H' : Hp} (h : HandP H a) (k : ∀ b o, H b = some o → H' b = some o) : HandP H' a := by
  obtain ⟨c, cs, i, b, sd, n, x⟩ := h
  exact ⟨c, cs, i, b, sd, n, k _ _ x.at_, k _ _ x.cells, x.len, x.pos, x.i0, x.b0, x.s0, x.n0⟩
section
variable {P : Program} {w : World} {K : PySem.W.Frag} {mg : Str → Option Value} {base : Heap}
/-! ### the hand -/
def spHand (K : PySem.W.Frag) : Sp := fun vs H Q _ => ∃ (a : Addr) (ns : List Int), vs = [.ref a] ∧ SqL K H a (ns.map V.int) ∧ ns.length ≤ 63 ∧ ∀ H' p, Same H H' → H p = none → HandP H' p → Q (.ref p) H'
theorem scHand : FnScope ["script", "cells", "cell"] ["script"] (defScope sHand) := ⟨rfl, rfl, rfl, by decide +kernel, rfl, by decide +kernel, by decide +kernel⟩
theorem cut63 {α : Type} (f : α → V) (ns : List α) (h : ns.length ≤ 63) : cutV (ns.map f) none (some 63) = ns.map f := by
  unfold cutV
  rw [HT.sIx_none]
  have e : HT.sIx (ns.map f).length (ns.map f).length (some 63) = min 63 (ns.map f).length := HT.sIx_nat _ _ 63
  rw [e, List.length_map, show min 63 ns.length = ns.length by omega]
  show ((ns.map f).drop 0).take (ns.length - 0) = _
  rw [List.drop_zero, Nat.sub_zero]
  exact List.take_of_length_le (by rw [List.length_map]; exact Nat.le_refl _)
def absI (n : Int) : Int := if n < 0 then -n else n
theorem ok_hand {f : Addr} {fd : FuncData} (F : FnP K "_law_hand" sHand f fd) (m1 : mg "abs" = none) (m2 : mg "int" = none) (m3 : mg "len" = none) : FnOk P w K mg base CX0 1 f fd ["script"] (spHand K) := by
  refine F.ok scHand (fun vs H Q E h => ?_) (fun cdv A outer s H vs Q E hr h => ?_)
  · obtain ⟨a, ns, rfl, _⟩ := h
    rfl
  · obtain ⟨a, ns, rfl, hS, hl, q⟩ := h
    refine ⟨_, (pss_cons (ps_setLc (i := 1) (own := [("cell", 2)]) (g := gName 2) (tt := tYes) rfl scHand.nd rfl rfl (sw_true rfl rfl rfl (by decide +kernel)) (pi_list (pe_slice sl_list (pv 0) po_none (po_some pe_int))) (blkOk_by (N := ["script", "cells", "cell"]) (sc := defScope sHand) (by decide +kernel)) (fun _ _ _ _ _ => pg_name (i := 2) scHand.nd rfl (Or.inl rfl)) (fun _ _ _ _ _ => pts_nil) (fun _ _ _ _ _ => (pe_callB call_abs (by rfl) m1 (by decide +kernel) (pa_cons (pe_callTy call_int1 (by rfl) m2 (by decide +kernel) (pa_cons (pv 2) pa_nil)) pa_nil))))
      (pss_one (ps_ret (pe_lst (pa_cons (pv 1) (pa_cons pe_int (pa_cons pe_int (pa_cons (pe_op op_add pe_int (pe_op op_mul pe_int (pe_callB call_len_seq (by rfl) m3 PySem.boot_len (pa_cons (pv 1) pa_nil)))) (pa_cons pe_int pa_nil))))))))), ?_⟩
    refine ⟨_, rfl, _, rfl, a, _, rfl, hS, fun p np => ?_⟩
    rw [show cutV (ns.map V.int) none (some 63) = ns.map V.int from cut63 V.int ns hl]
    refine ⟨p, rfl, ⟨_, SqL.of upd_same⟩, fun D nD => ?_⟩
    have nDp : D ≠ p := fun e => by
      rw [e, upd_same] at nD
      cases nD
    have nD0 : H D = none := by rw [upd_ne nDp] at nD; exact nD
    refine lc_list (xs := ns.map V.int) (fun i H' => H' = upd (upd H p (.lst (ns.map V.int))) D (.lst (((ns.map absI).take i).map V.int))) rfl (fun i H' _ e => ?_) (fun i x H' hx e => ?_) (fun H' e => ?_)
    · rw [e]
      exact SqL.of (by rw [upd_ne nDp.symm, upd_same])
    · subst e
      obtain ⟨n, hn, rfl⟩ : ∃ n, ns[i]? = some n ∧ x = V.int n := by
        rw [List.getElem?_map] at hx
        obtain ⟨n, h1, h2⟩ := Option.map_eq_some_iff.mp hx
        exact ⟨n, h1, h2.symm⟩
      have hlt : i < ns.length := (List.getElem?_eq_some_iff.mp hn).1
      refine ⟨rfl, _, rfl, .inl ⟨_, rfl, ?_⟩⟩
      refine ⟨_, rfl, _, upd_same, small1000 (by rw [List.length_map, List.length_take]; omega), ?_⟩
      rw [upd_upd]
      congr 2
      rw [List.take_add_one, List.getElem?_map, hn, List.map_append]
      rfl
    · subst e
      refine ⟨_, rfl, _, rfl, D, _, rfl, .inl (SqL.of upd_same), _, _, rfl, rfl, .inl ⟨by decide, by decide⟩, _, _, rfl, rfl, (by rw [sizeLine_eq]; exact (by decide : 5 ≤ 16777216)), fun hp nh => ?_⟩
      have eT : ((ns.map absI).take (ns.map V.int).length) = ns.map absI := List.take_of_length_le (by rw [List.length_map, List.length_map]; exact Nat.le_refl _)
      rw [eT] at nh ⊢
      have ph : hp ≠ D := fun e => by
        rw [e, upd_same] at nh
        cases nh
      have php : hp ≠ p := fun e => by
        rw [e, upd_ne nDp.symm, upd_same] at nh
        cases nh
      have nh0 : H hp = none := by rw [upd_ne ph, upd_ne php] at nh; exact nh
      refine q _ hp (fun b o e => ?_) nh0 ⟨D, ns.map absI, 0, 0, _, 0, upd_same, by rw [upd_ne ph.symm]; exact upd_same, by rw [List.length_map]; exact hl, fun x hx => ?_, by decide, by decide, ?_, by decide⟩
      · rw [upd_ne (ne_of_none e nh0), upd_ne (ne_of_none e nD0), upd_ne (ne_of_none e np)]
        exact e
      · obtain ⟨n, _, rfl⟩ := List.mem_map.mp hx
        unfold absI
        split <;> omega
      · omega
def spDraw : Sp := fun vs H Q _ => ∃ (a c : Addr) (m : Int), vs = [.ref a, .int m] ∧ HandC H a c ∧ 0 < m ∧ m < 1073741824 ∧ ∀ (d : Int) (H' : Hp), 0 ≤ d → d < m → HandC H' a c → Keep a H H' → Q (.int d) H'
theorem scDraw : FnScope ["hand", "many", "cell", "figure", "number"] ["hand", "many"] (defScope sDraw) := ⟨rfl, rfl, rfl, by decide +kernel, rfl, by decide +kernel, by decide +kernel⟩
theorem ok_draw {f : Addr} {fd : FuncData} (F : FnP K "_law_draw" sDraw f fd) (m2 : mg "int" = none) (m3 : mg "len" = none) : FnOk P w K mg base CX0 1 f fd ["hand", "many"] spDraw := by
  refine F.ok scDraw (fun vs H Q E h => ?_) (fun cdv A outer s H vs Q E hr h => ?_)
  · obtain ⟨a, c, m, rfl, _⟩ := h
    rfl
  · obtain ⟨a, c, m, rfl, hh, hm, hm2, q⟩ := h
    refine ⟨_, (C8.pss_cut (ps_if (PW.pt (pw_and (pt_cmpR op_eq (pe_ix ix_list (pv 0) pe_int (fun _ _ => rfl)) pe_int (nomark _)) (pw_and1 (pt_cmpR op_lt (pe_ix ix_list (pv 0) pe_int (fun _ _ => rfl)) (pe_callB call_len_seq (by rfl) m3 PySem.boot_len (pa_cons (pe_ix ix_list (pv 0) pe_int (fun _ _ => rfl)) pa_nil)) (nomark _))))) (pss_cons (ps_set (i := 2) scDraw.nd rfl (Or.inl rfl) (pe_ix ix_list (pe_ix ix_list (pv 0) pe_int (fun _ _ => rfl)) (pe_ix ix_list (pv 0) pe_int (fun _ _ => rfl)) (fun _ _ => rfl)))
      (pss_cons (ps_asg (pe_op op_add (pe_ix ix_list (pv 0) pe_int (fun _ _ => rfl)) pe_int) (pg_sub (pv 0) pe_int set_list))
      (pss_cons (ps_asg (pe_op op_mod (pe_callTy call_int1 (by rfl) m2 (by decide +kernel) (pa_cons (pe_op op_add (pe_op op_add (pe_op op_mul (pe_ix ix_list (pv 0) pe_int (fun _ _ => rfl)) pe_int) (pv 2)) pe_int) pa_nil)) pe_int) (pg_sub (pv 0) pe_int set_list))
      (pss_one (ps_if (pt_cmpR op_ge (pv 2) (pe_op op_pow pe_int pe_int) (nomark _)) (pss_one (ps_asg (pv 2) (pg_sub (pv 0) pe_int set_list))) pss_nil))))) pss_nil)
      (pss_cons (ps_if (pt_cmpR op_gt (pe_ix ix_list (pv 0) pe_int (fun _ _ => rfl)) pe_int (nomark _)) (pss_cons (ps_set (i := 3) scDraw.nd rfl (Or.inl rfl) (pe_op op_mod (pe_callTy call_int1 (by rfl) m2 (by decide +kernel) (pa_cons (pe_ix ix_list (pv 0) pe_int (fun _ _ => rfl)) pa_nil)) (pv 1)))
      (pss_cons (ps_asg (pe_op op_fdiv (pe_ix ix_list (pv 0) pe_int (fun _ _ => rfl)) (pv 1)) (pg_sub (pv 0) pe_int set_list))
      (pss_one (ps_ret (pv 3))))) pss_nil)
      (pss_cons (ps_asg (pe_op op_add (pe_ix ix_list (pv 0) pe_int (fun _ _ => rfl)) pe_int) (pg_sub (pv 0) pe_int set_list))
      (pss_cons (ps_set (i := 4) scDraw.nd rfl (Or.inl rfl) (pe_op op_mod (pe_callTy call_int1 (by rfl) m2 (by decide +kernel) (pa_cons (pe_op op_mul (pe_callTy call_int1 (by rfl) m2 (by decide +kernel) (pa_cons (pe_op op_add (pe_ix ix_list (pv 0) pe_int (fun _ _ => rfl)) (pe_op op_mul pe_int (pe_ix ix_list (pv 0) pe_int (fun _ _ => rfl)))) pa_nil)) pe_int) pa_nil)) pe_int))
      (pss_cons (ps_set (i := 4) scDraw.nd rfl (Or.inl rfl) (pe_op op_mod (pe_callTy call_int1 (by rfl) m2 (by decide +kernel) (pa_cons (pe_op op_mul (pv 4) (pe_op op_add (pe_op op_fdiv (pv 4) pe_int) pe_int)) pa_nil)) pe_int))
      (pss_cons (ps_set (i := 4) scDraw.nd rfl (Or.inl rfl) (pe_op op_mod (pe_callTy call_int1 (by rfl) m2 (by decide +kernel) (pa_cons (pe_op op_mul (pv 4) (pe_op op_add (pe_op op_fdiv (pv 4) pe_int) pe_int)) pa_nil)) pe_int))
      (pss_one (ps_ret (pe_op op_mod (pe_callTy call_int1 (by rfl) m2 (by decide +kernel) (pa_cons (pe_op op_fdiv (pv 4) pe_int) pa_nil)) (pv 1)))))))))), ?_⟩
    refine ⟨fun σ' H' => ∃ x, σ' = [some (.ref a), some (.int m), x, none, none] ∧ HandC H' a c ∧ Keep a H H', ?_, fun σ' H' hM => ?_⟩
    · obtain ⟨cs, i, b, sd, n, h⟩ := hh
      have hat := h.at_
      refine ⟨_, rfl, a, _, _, _, rfl, rfl, SqL.of hat, atI_nat (j := 2) rfl, rfl, _, rfl, tst (fun e1 => ?_) fun _ => ⟨none, rfl, ⟨cs, i, b, sd, n, h⟩, Keep.refl⟩⟩
      refine ⟨_, rfl, a, _, _, _, rfl, rfl, SqL.of hat, atI_nat (j := 1) rfl, _, rfl, a, _, _, _, rfl, rfl, SqL.of hat, atI_nat (j := 0) rfl, c, _, rfl, .inl (SqL.of h.cells), _, _, rfl, rfl, _, rfl, tst (fun e2 => ?_) fun _ => ⟨none, rfl, ⟨cs, i, b, sd, n, h⟩, Keep.refl⟩⟩
      have hi : i < (cs.length : Int) := by
        have z := of_decide_eq_true e2
        rw [List.length_map] at z
        exact z
      have hi0 := h.i0
      obtain ⟨j, rfl⟩ : ∃ j : Nat, i = (j : Int) := ⟨i.toNat, by omega⟩
      have hj : j < cs.length := by omega
      obtain ⟨x, hx⟩ : ∃ x, cs[j]? = some x := ⟨cs[j], List.getElem?_eq_getElem hj⟩
      have x0 : 0 ≤ x := h.pos x (List.mem_of_getElem? hx)
      have hxm : (cs.map V.int)[j]? = some (V.int x) := by rw [List.getElem?_map, hx]; rfl
      have cne := h.ne
      -- cell = hand[0][hand[1]]
      refine ⟨_, rfl, a, _, _, _, rfl, rfl, SqL.of hat, atI_nat (j := 0) rfl, _, rfl, a, _, _, _, rfl, rfl, SqL.of hat, atI_nat (j := 1) rfl, c, _, _, _, rfl, rfl, SqL.of h.cells, atI_nat hxm, ?_⟩
      -- hand[1] = hand[1] + 1
      refine ⟨_, rfl, a, _, _, _, rfl, rfl, SqL.of hat, atI_nat (j := 1) rfl, _, _, rfl, rfl, _, rfl, a, _, _, 1, rfl, rfl, hat, rfl, ?_⟩
      -- hand[3] = int(hand[3] * 69621 + cell + 83) % 2147483629
      refine ⟨_, rfl, a, _, _, _, rfl, rfl, SqL.of upd_same, atI_nat (j := 3) rfl, _, _, rfl, rfl, .inr ⟨by decide, by decide⟩, _, rfl, _, _, rfl, rfl, _, _, rfl, rfl, .inl ⟨_, rfl, _, _, rfl, rfl, (by show (0 : Int) < 2147483647; decide), _, rfl, a, _, _, 3, rfl, rfl, upd_same, rfl, ?_⟩⟩
      -- if cell >= 10 ** 18
      refine ⟨_, rfl, _, _, rfl, rfl, ⟨by decide, by decide, by decide⟩, _, _, rfl, rfl, _, rfl, tst (fun e3 => ?_) fun _ => ?_⟩
      · refine ⟨_, rfl, _, rfl, a, _, _, 2, rfl, rfl, upd_same, rfl, some (V.int x), rfl, ⟨cs, ((j : Int) + 1), x, _, n, upd_same, ?_, h.len, h.pos, by omega, x0, Int.emod_nonneg _ (by decide), h.n0⟩, ((Keep.refl.upd).upd).upd⟩
        rw [upd_ne cne, upd_ne cne, upd_ne cne]
        exact h.cells
      · refine ⟨some (V.int x), rfl, ⟨cs, ((j : Int) + 1), b, _, n, upd_same, ?_, h.len, h.pos, by omega, h.b0, Int.emod_nonneg _ (by decide), h.n0⟩, (Keep.refl.upd).upd⟩
        rw [upd_ne cne, upd_ne cne]
        exact h.cells
    · obtain ⟨x, rfl, ⟨cs, i, b, sd, n, h⟩, kp⟩ := hM
      have hat := h.at_
      have cne := h.ne
      refine ⟨_, rfl, a, _, _, _, rfl, rfl, SqL.of hat, atI_nat (j := 2) rfl, _, _, rfl, rfl, _, rfl, tst (fun e1 => ?_) fun _ => ?_⟩
      · -- digit = int(hand[2]) % many; hand[2] = hand[2] // many; return digit
        refine ⟨_, rfl, a, _, _, _, rfl, rfl, SqL.of hat, atI_nat (j := 2) rfl, .inl ⟨_, rfl, _, rfl, _, _, rfl, rfl, hm, ?_⟩⟩
        refine ⟨_, rfl, a, _, _, _, rfl, rfl, SqL.of hat, atI_nat (j := 2) rfl, _, rfl, _, _, rfl, rfl, ⟨hm, hm2⟩, _, rfl, a, _, _, 2, rfl, rfl, hat, rfl, ?_⟩
        refine ⟨_, rfl, ?_⟩
        refine q _ _ (Int.emod_nonneg _ (by omega)) (Int.emod_lt_of_pos _ hm) ⟨cs, i, b / m, sd, n, upd_same, by rw [upd_ne cne]; exact h.cells, h.len, h.pos, h.i0, Int.ediv_nonneg h.b0 (by omega), h.s0, h.n0⟩ kp.upd
      · -- hand[4] = hand[4] + 1
        refine ⟨_, rfl, a, _, _, _, rfl, rfl, SqL.of hat, atI_nat (j := 4) rfl, _, _, rfl, rfl, _, rfl, a, _, _, 4, rfl, rfl, hat, rfl, ?_⟩
        -- number = int(int(hand[3] + 7919 * hand[4]) * 48271) % 2147483647
        refine ⟨_, rfl, a, _, _, _, rfl, rfl, SqL.of upd_same, atI_nat (j := 3) rfl, _, rfl, a, _, _, _, rfl, rfl, SqL.of upd_same, atI_nat (j := 4) rfl, _, _, rfl, rfl, .inl ⟨by decide, by decide⟩, _, _, rfl, rfl, .inl ⟨_, rfl, _, _, rfl, rfl, .inr ⟨by decide, by decide⟩, .inl ⟨_, rfl, _, _, rfl, rfl, (by show (0 : Int) < 2147483399; decide), ?_⟩⟩⟩
        -- number = int(number * (number // 1009 + 69621)) % 2147483647
        refine ⟨_, rfl, _, rfl, _, _, rfl, rfl, ⟨by decide, by decide⟩, _, _, rfl, rfl, _, _, rfl, rfl, .inl (mod64 _ (by decide) (by decide)), .inl ⟨_, rfl, _, _, rfl, rfl, (by show (0 : Int) < 2147483629; decide), ?_⟩⟩
        -- number = int(number * (number // 2003 + 40692)) % 2147483399
        refine ⟨_, rfl, _, rfl, _, _, rfl, rfl, ⟨by decide, by decide⟩, _, _, rfl, rfl, _, _, rfl, rfl, .inl (mod64 _ (by decide) (by decide)), .inl ⟨_, rfl, _, _, rfl, rfl, (by show (0 : Int) < 2147483647; decide), ?_⟩⟩
        -- return int(number // 16) % many
        refine ⟨_, rfl, _, _, rfl, rfl, ⟨by decide, by decide⟩, .inl ⟨_, rfl, _, rfl, _, _, rfl, rfl, hm, ?_⟩⟩
        refine q _ _ (Int.emod_nonneg _ (by omega)) (Int.emod_lt_of_pos _ hm) ⟨cs, i, b, sd, n + 1, upd_same, by rw [upd_ne cne]; exact h.cells, h.len, h.pos, h.i0, h.b0, h.s0, by have := h.n0; omega⟩ kp.upd

/-- a def of the text that keeps its promise, wherever it stands -/
def Df (P : Program) (w : World) (K : PySem.W.Frag) (mg : Str → Option Value) (base : Heap) (x : Str) (k : Nat) (ps : List Str) (sp : Sp) : Prop :=
  ∃ (f : Addr) (fd : FuncData), mg x = some (.ref f) ∧ PySem.W.keepIn K (.ref f) = true ∧ Binds K fd ps [] ∧ FnOk P w K mg base CX0 k f fd ps sp
theorem pe_df {X : Cx} {x : Str} {k j : Nat} {ps : List Str} {sp : Sp} {e : Expr} {es : List Expr} {ta : TA} {p pos : Pos} (D : Df X.prog X.w X.K X.mg X.base x k ps sp) (hr : Room j X.A) (hj : k ≤ j) (ha : PA X (e :: es) ta) (hg : Gl X x := by rfl)
    (hdb : (x == ("__debug__" : Str)) = false := by decide) (he : starEach (e :: es) X.env = (false, eval e X.env) :: starEach es X.env := by rfl) (hpl : (backTo pos (starEach es X.env)).any (·.1) = false := by rfl) :
    PE X (.Call (.Name x p) (e :: es) [] pos) (tCall sp [] E0 ta) := by
  obtain ⟨f, fd, hm, hk, hb, F⟩ := D
  exact pe_call F (hr.mono hj) hg hm hk hb .nil pass0 ha hdb he hpl
def spSome (K : PySem.W.Frag) : Sp := fun vs H Q _ => ∃ (a c l : Addr) (xs : List V), vs = [.ref a, .ref l] ∧ HandC H a c ∧ l ≠ a ∧ SqL K H l xs ∧ 0 < xs.length ∧ xs.length ≤ 1000 ∧ ∀ (x : V) (H' : Hp), x ∈ xs → HandC H' a c → Keep a H H' → Q x H'
theorem scSome : FnScope ["hand", "things"] ["hand", "things"] (defScope sSome) := ⟨rfl, rfl, rfl, by decide +kernel, rfl, by decide +kernel, by decide +kernel⟩
theorem SqL.keep {a l : Addr} {H H' : Hp} {xs : List V} (k : Keep a H H') (n : l ≠ a) (h : SqL K H l xs) : SqL K H' l xs := by
  rcases h with (h | ⟨o, h⟩) | h
  · exact .inl (.inl (k _ _ n h))
  · exact .inl (.inr ⟨o, k _ _ n h⟩)
  · exact .inr h
theorem ok_some {f : Addr} {fd : FuncData} (F : FnP K "_law_some" sSome f fd) (D : Df P w K mg base "_law_draw" 1 ["hand", "many"] spDraw) (m3 : mg "len" = none) : FnOk P w K mg base CX0 2 f fd ["hand", "things"] (spSome K) := by
  refine F.ok scSome (fun vs H Q E h => ?_) (fun cdv A outer s H vs Q E hr h => ?_)
  · obtain ⟨a, c, l, xs, rfl, _⟩ := h
    rfl
  · obtain ⟨a, c, l, xs, rfl, hh, hla, hS, h0, h1, q⟩ := h
    refine ⟨_, PSs.nox (pss_one (ps_ret (pe_ix ix_list (pv 1) (pe_df D hr (by decide) (pa_cons (pv 0) (pa_cons (pe_callB call_len_seq (by rfl) m3 PySem.boot_len (pa_cons (pv 1) pa_nil)) pa_nil))) (fun _ _ => rfl)))), ?_⟩
    refine ⟨_, rfl, _, rfl, _, rfl, l, _, rfl, .inl hS, a, c, _, rfl, hh, by omega, by omega, fun d H' d0 d1 hh' kp => ?_⟩
    obtain ⟨j, rfl⟩ : ∃ j : Nat, d = (j : Int) := ⟨d.toNat, by omega⟩
    have hj : j < xs.length := by omega
    exact ⟨l, _, _, xs[j], rfl, rfl, SqL.keep kp hla hS, atI_nat (List.getElem?_eq_getElem hj), q _ _ (List.getElem_mem hj) hh' kp⟩


end
end Sm
/-! Data in the heap but for the object at a (the hand of the draws); what keeps it. -/
namespace Vd
open PySem PySem.Spec PyProof.Rows L2
def TupN (H : Hp) (p : Addr) (xs : List V) : Prop := H p = some (.tup xs) ∨ ∃ o : Obj, H p = some (.frz o (.tup xs))
theorem TupN.sq {K : PySem.W.Frag} {H : Hp} {p : Addr} {xs : List V} (h : TupN H p xs) : SqT K H p xs := .inl h
theorem TupN.same {H H' : Hp} {p : Addr} {xs : List V} (h : TupN H p xs) (s : ∀ b o, H b = some o → H' b = some o) : TupN H' p xs := h.imp (s _ _) fun z => z.imp fun _ => s _ _
def kD : Key → PyData
  | .inl i => .int i
  | .inr x => .str x
mutual
inductive Dd (K : PySem.W.Frag) (H : Hp) : V → PyData → Prop
  | non : Dd K H .non .none
  | bl (b : Bool) : Dd K H (.bl b) (.bool b)
  | int (i : Int) : Dd K H (.int i) (.int i)
  | str (x : Str) : Dd K H (.str x) (.str x)
  | lst {a : Addr} {xs : List V} {ds : List PyData} : SqL K H a xs → DdAll K H xs ds → Dd K H (.ref a) (.list ds)
  | tup {a : Addr} {xs : List V} {ds : List PyData} : TupN H a xs → DdAll K H xs ds → Dd K H (.ref a) (.tuple ds)
  | dct {a : Addr} {kvs : List (Key × V)} {ds : List (PyData × PyData)} : H a = some (.dK kvs) → DdKv K H kvs ds → Dd K H (.ref a) (.dict ds)
inductive DdAll (K : PySem.W.Frag) (H : Hp) : List V → List PyData → Prop
  | nil : DdAll K H [] []
  | cons {v : V} {vs : List V} {d : PyData} {ds : List PyData} : Dd K H v d → DdAll K H vs ds → DdAll K H (v :: vs) (d :: ds)
inductive DdKv (K : PySem.W.Frag) (H : Hp) : List (Key × V) → List (PyData × PyData) → Prop
  | nil : DdKv K H [] []
  | cons {k : Key} {v : V} {r : List (Key × V)} {d : PyData} {ds : List (PyData × PyData)} : Dd K H v d → DdKv K H r ds → DdKv K H ((k, v) :: r) ((kD k, d) :: ds)
end
mutual
theorem Dd.same {K : PySem.W.Frag} {H H' : Hp} (e : Same H H') : ∀ {v : V} {d : PyData}, Dd K H v d → Dd K H' v d
  | _, _, .non => .non
  | _, _, .bl b => .bl b
  | _, _, .int i => .int i
  | _, _, .str x => .str x
  | _, _, .lst h r => .lst (Same.seq e h) (DdAll.same e r)
  | _, _, .tup h r => .tup (TupN.same h e) (DdAll.same e r)
  | _, _, .dct h r => .dct (e _ _ h) (DdKv.same e r)
theorem DdAll.same {K : PySem.W.Frag} {H H' : Hp} (e : Same H H') : ∀ {vs : List V} {ds : List PyData}, DdAll K H vs ds → DdAll K H' vs ds
  | _, _, .nil => .nil
  | _, _, .cons h r => .cons (Dd.same e h) (DdAll.same e r)
theorem DdKv.same {K : PySem.W.Frag} {H H' : Hp} (e : Same H H') : ∀ {vs : List (Key × V)} {ds : List (PyData × PyData)}, DdKv K H vs ds → DdKv K H' vs ds
  | _, _, .nil => .nil
  | _, _, .cons h r => .cons (Dd.same e h) (DdKv.same e r)
end
def vis (a : Addr) (H : Hp) : Hp := fun b => if b = a then none else match H b with
  | some (.tbl _) => none
  | o => o
theorem vis_sub {a b : Addr} {H : Hp} {o : HO} (h : vis a H b = some o) : H b = some o ∧ b ≠ a ∧ ∀ ps, o ≠ .tbl ps := by
  unfold vis at h
  by_cases e : b = a
  · rw [if_pos e] at h
    cases h
  · rw [if_neg e] at h
    cases q : H b with
    | none =>
      rw [q] at h
      cases h
    | some u =>
      rw [q] at h
      cases u <;> first | (cases h; exact ⟨rfl, e, fun ps z => nomatch z⟩) | cases h
theorem vis_at {a b : Addr} {H : Hp} {o : HO} (h : H b = some o) (n : b ≠ a) (t : ∀ ps, o ≠ .tbl ps) : vis a H b = some o := by
  unfold vis
  rw [if_neg n, h]
  cases o <;> first | rfl | exact absurd rfl (t _)
theorem vis_same {a : Addr} {H : Hp} : Same (vis a H) H := fun _ _ h => (vis_sub h).1
/-- all that the data at H can lean on stands at H' too -/
def Kp (a : Addr) (H H' : Hp) : Prop := Same (vis a H) (vis a H')
theorem Kp.refl {a : Addr} {H : Hp} : Kp a H H := fun _ _ h => h
theorem Kp.trans {a : Addr} {H H1 H2 : Hp} (x : Kp a H H1) (y : Kp a H1 H2) : Kp a H H2 := fun b o h => y b o (x b o h)
theorem Kp.ext {a : Addr} {H H' : Hp} (k : ∀ b o, b ≠ a → (∀ ps, o ≠ .tbl ps) → H b = some o → H' b = some o) : Kp a H H' := fun b o h => by
  obtain ⟨h1, h2, h3⟩ := vis_sub h
  exact vis_at (k b o h2 h3 h1) h2 h3
theorem kp_same {a : Addr} {H H' : Hp} (s : Same H H') : Kp a H H' := Kp.ext fun b o _ _ h => s b o h
theorem kp_keep {a : Addr} {H H' : Hp} (s : Sm.Keep a H H') : Kp a H H' := Kp.ext fun b o n _ h => s b o n h
theorem kp_extN {a : Addr} {H H' : Hp} (s : LamX.ExtN H H') : Kp a H H' := Kp.ext fun b o _ t h => s b o h t
theorem same_up {H : Hp} {a : Addr} {o : HO} (n : H a = none) : Same H (upd H a o) := fun b u e => by
  rw [upd_ne (ne_of_none e n)]
  exact e
theorem kp_up {a p : Addr} {H : Hp} {o : HO} (n : H p = none) : Kp a H (upd H p o) := kp_same (same_up n)
/-- the place p is written again (it was new when H0 stood) -/
theorem kp_in {a p : Addr} {H H1 : Hp} {o : HO} (k : Kp a H H1) (n : H p = none) : Kp a H (upd H1 p o) := fun b u h => by
  obtain ⟨h1, h2, h3⟩ := vis_sub (k b u h)
  have e := (vis_sub h).1
  exact vis_at (by rw [upd_ne (ne_of_none e n)]; exact h1) h2 h3
variable {K : PySem.W.Frag} {a : Addr} {H H' : Hp}
abbrev Dv (a : Addr) (K : PySem.W.Frag) (H : Hp) (v : V) (d : PyData) : Prop := Dd K (vis a H) v d
abbrev DvAll (a : Addr) (K : PySem.W.Frag) (H : Hp) (vs : List V) (ds : List PyData) : Prop := DdAll K (vis a H) vs ds
theorem Dv.kp {v : V} {d : PyData} (h : Dv a K H v d) (k : Kp a H H') : Dv a K H' v d := Dd.same k h
theorem DvAll.kp {v : List V} {d : List PyData} (h : DvAll a K H v d) (k : Kp a H H') : DvAll a K H' v d := DdAll.same k h
theorem Dv.dd {v : V} {d : PyData} (h : Dv a K H v d) : Dd K H v d := Dd.same vis_same h
theorem tupN_vis {p : Addr} {xs : List V} (h : TupN (vis a H) p xs) : TupN H p xs := TupN.same h vis_same
theorem sqL_vis {p : Addr} {xs : List V} (h : SqL K (vis a H) p xs) : SqL K H p xs := Same.seq vis_same h
theorem Dv.tup {p : Addr} {xs : List V} {ds : List PyData} (h : TupN H p xs) (n : p ≠ a) (x : DvAll a K H xs ds) : Dv a K H (.ref p) (.tuple ds) := by
  rcases h with h | ⟨o, h⟩
  · exact Dd.tup (.inl (vis_at h n (fun _ z => nomatch z))) x
  · exact Dd.tup (.inr ⟨o, vis_at h n (fun _ z => nomatch z)⟩) x
theorem Dv.lst {p : Addr} {xs : List V} {ds : List PyData} (h : H p = some (.lst xs)) (n : p ≠ a) (x : DvAll a K H xs ds) : Dv a K H (.ref p) (.list ds) := Dd.lst (SqL.of (vis_at h n fun _ z => nomatch z)) x
theorem Dv.ofTup {v : V} {ds : List PyData} (h : Dv a K H v (.tuple ds)) : ∃ p xs, v = .ref p ∧ TupN (vis a H) p xs ∧ DvAll a K H xs ds := by
  cases h with
  | tup h1 h2 => exact ⟨_, _, rfl, h1, h2⟩
theorem dall_len : ∀ {vs : List V} {ds : List PyData}, DdAll K H vs ds → vs.length = ds.length
  | _, _, .nil => rfl
  | _, _, .cons _ t => by rw [List.length_cons, List.length_cons, dall_len t]
theorem dall_at : ∀ {vs : List V} {ds : List PyData} {i : Nat} {d : PyData}, DdAll K H vs ds → ds[i]? = some d → ∃ v, vs[i]? = some v ∧ Dd K H v d
  | _, _, _, _, .nil, h => by simp at h
  | _, _, 0, _, .cons r _, h => by
    simp at h
    subst h
    exact ⟨_, rfl, r⟩
  | _, _, j + 1, _, .cons _ t, h => by
    obtain ⟨b, h1, h2⟩ := dall_at (i := j) t (by simpa using h)
    exact ⟨b, by simpa using h1, h2⟩
theorem dall_at' : ∀ {vs : List V} {ds : List PyData} {i : Nat} {v : V}, DdAll K H vs ds → vs[i]? = some v → ∃ d, ds[i]? = some d ∧ Dd K H v d
  | _, _, _, _, .nil, h => by simp at h
  | _, _, 0, _, .cons r _, h => by
    simp at h
    subst h
    exact ⟨_, rfl, r⟩
  | _, _, j + 1, _, .cons _ t, h => by
    obtain ⟨b, h1, h2⟩ := dall_at' (i := j) t (by simpa using h)
    exact ⟨b, by simpa using h1, h2⟩
theorem dall_app : ∀ {vs us : List V} {ds es : List PyData}, DdAll K H vs ds → DdAll K H us es → DdAll K H (vs ++ us) (ds ++ es)
  | _, _, _, _, .nil, h => h
  | _, _, _, _, .cons r t, h => .cons r (dall_app t h)
theorem dall_take : ∀ {vs : List V} {ds : List PyData} (n : Nat), DdAll K H vs ds → DdAll K H (vs.take n) (ds.take n)
  | _, _, 0, _ => by
    rw [List.take_zero, List.take_zero]
    exact .nil
  | _, _, n + 1, .nil => .nil
  | _, _, n + 1, .cons r t => .cons r (dall_take n t)
theorem dall_drop : ∀ {vs : List V} {ds : List PyData} (n : Nat), DdAll K H vs ds → DdAll K H (vs.drop n) (ds.drop n)
  | _, _, 0, h => h
  | _, _, n + 1, .nil => .nil
  | _, _, n + 1, .cons r t => dall_drop n t
theorem dall_mem : ∀ {vs : List V} {ds : List PyData} {v : V}, DdAll K H vs ds → v ∈ vs → ∃ d, d ∈ ds ∧ Dd K H v d
  | _, _, _, .nil, h => by cases h
  | _, _, _, .cons r t, h => by
    rcases List.mem_cons.mp h with h | h
    · subst h
      exact ⟨_, List.mem_cons_self, r⟩
    · obtain ⟨d, h1, h2⟩ := dall_mem t h
      exact ⟨d, List.mem_cons_of_mem _ h1, h2⟩
/-! ### isinstance of data -/
def tyD : PyData → String
  | .none => "NoneType"
  | .bool _ => "bool"
  | .int _ => "int"
  | .str _ => "str"
  | .list _ => "list"
  | .tuple _ => "tuple"
  | .dict _ => "dict"
theorem tyx {v : V} {d : PyData} (h : Dd K H v d) : TyX K H v (.type (tyD d)) := by
  cases h with
  | non => exact .base .non
  | bl b => exact .base (.bl b)
  | int i => exact .base (.int i)
  | str x => exact .base (.str x)
  | lst h _ =>
    rcases h with (h | ⟨o, h⟩) | ⟨o, _, _, h, c, _⟩
    · exact .base (.lst h)
    · exact .base (.frz h)
    · exact .kList h c
  | tup h _ =>
    rcases h with h | ⟨o, h⟩
    · exact .base (.tup h)
    · exact .fTuple h
  | dct h _ => exact .base (.dK h)
theorem isi {v : V} {d : PyData} {n : String} {b : Bool} {Q : VK} (h : Dd K H v d) (e : kitB (tyD d) n = some b) (q : Q (.bl b) H) : rIsi K [v, .ty n] H Q := ⟨v, .ty n, _, _, b, rfl, .ty n, tyx h, kit_ty e, q⟩
def isI : PyData → Bool
  | .int _ => true
  | .bool _ => true
  | _ => false
def isB : PyData → Bool
  | .bool _ => true
  | _ => false
def isT : PyData → Bool
  | .tuple _ => true
  | _ => false
def isL : PyData → Bool
  | .list _ => true
  | _ => false
def isD : PyData → Bool
  | .dict _ => true
  | _ => false
def isS : PyData → Bool
  | .str _ => true
  | _ => false
theorem kI (d : PyData) : kitB (tyD d) "int" = some (isI d) := by cases d <;> (dsimp only [tyD, isI]; decide +kernel)
theorem kB (d : PyData) : kitB (tyD d) "bool" = some (isB d) := by cases d <;> (dsimp only [tyD, isB]; decide +kernel)
theorem kT (d : PyData) : kitB (tyD d) "tuple" = some (isT d) := by cases d <;> (dsimp only [tyD, isT]; decide +kernel)
theorem kL (d : PyData) : kitB (tyD d) "list" = some (isL d) := by cases d <;> (dsimp only [tyD, isL]; decide +kernel)
theorem kDi (d : PyData) : kitB (tyD d) "dict" = some (isD d) := by cases d <;> (dsimp only [tyD, isD]; decide +kernel)
theorem kS (d : PyData) : kitB (tyD d) "str" = some (isS d) := by cases d <;> (dsimp only [tyD, isS]; decide +kernel)
end Vd
namespace Sm
open PySem PySem.Spec PyProof.Rows L2 Vd
theorem ty_cls {X : Cx} {n : String} {x : Str} {pos : Pos} (hm : X.mg x = none) (hg : Gl X x) (hb : bootBuiltins x = some (.type n)) (h : x ≠ "__name__" := by decide) (hd : (x == ("__debug__" : Str)) = false := by decide) : PE X (.Name x pos) (tC (.ty n)) := pe_bltn hg hm hb rfl h hd
/-! ### the data of this law -/
mutual
def okD : PyData → Bool
  | .str x => decide (x.length ≤ 4000)
  | .int i => decide (i.natAbs < 2 ^ 200)
  | .list ds => decide (ds.length ≤ 4000) && okAll ds
  | .tuple ds => decide (ds.length ≤ 4000) && okAll ds
  | _ => true
def okAll : List PyData → Bool
  | [] => true
  | d :: r => okD d && okAll r
end
theorem okAll_mem : ∀ {ds : List PyData} {d : PyData}, okAll ds = true → d ∈ ds → okD d = true
  | x :: r, d, h, m => by
    unfold okAll at h
    obtain ⟨h1, h2⟩ := Bool.and_eq_true_iff.mp h
    rcases List.mem_cons.mp m with rfl | m
    · exact h1
    · exact okAll_mem h2 m
theorem ok_str {x : Str} (h : okD (.str x) = true) : x.length ≤ 4000 := by
  unfold okD at h
  exact of_decide_eq_true h
theorem ok_int {i : Int} (h : okD (.int i) = true) : i.natAbs < 2 ^ 200 := by
  unfold okD at h
  exact of_decide_eq_true h
theorem ok_tup {ds : List PyData} (h : okD (.tuple ds) = true) : ds.length ≤ 4000 ∧ okAll ds = true := by
  unfold okD at h
  obtain ⟨h1, h2⟩ := Bool.and_eq_true_iff.mp h
  exact ⟨of_decide_eq_true h1, h2⟩
def rngB (l h c : Nat) : Bool := decide (l ≤ c) && decide (c ≤ h)
def sgn (l h : Nat) (x : Str) : Bool := x.cps.toList.all (rngB l h)
def intD (d : PyData) : Bool := isI d && !isB d
def wordD : PyData → Bool
  | .str x => decide (x.length ≤ 20) && sgn 32 126 x
  | _ => false
def worthD (d : PyData) : Bool := intD d || wordD d
def nameD : PyData → Bool
  | .str x => (decide (1 ≤ x.length) && decide (x.length ≤ 8)) && sgn 97 122 x
  | _ => false
def tupOfD (lo hi : Int) (d : PyData) : Bool := match d with
  | .tuple ds => decide (lo ≤ (ds.length : Int)) && decide ((ds.length : Int) ≤ hi)
  | _ => false
def rowD (d : PyData) : Bool := match d with
  | .tuple ds => (decide ((1 : Int) ≤ (ds.length : Int)) && decide ((ds.length : Int) ≤ 5)) && ds.all worthD
  | _ => false
def primeD : PyData → Bool
  | .int i => decide (1000 ≤ i) && decide (i ≤ 170141183460469231731687303715884105728)
  | _ => false
def signB (c : Nat) : Bool := rngB 32 126 c || decide (c = 10)
def textD : PyData → Bool
  | .str x => x.cps.toList.all signB
  | _ => false
def isR : PyData → Bool
  | .str x => decide (x = ("rule" : Str))
  | _ => false
def ruleD : PyData → Bool
  | .tuple [t, x] => nameD t && textD x
  | _ => false
def factD : PyData → Bool
  | .tuple [n, r] => nameD n && (if isR n = true then ruleD r else rowD r)
  | _ => false
theorem intD_of {d : PyData} (h : intD d = true) : ∃ i, d = .int i := by
  cases d with
  | int i => exact ⟨i, rfl⟩
  | _ => cases h
theorem isS_of {d : PyData} (h : isS d = true) : ∃ i, d = .str i := by
  cases d with
  | str i => exact ⟨i, rfl⟩
  | _ => cases h
theorem isT_of {d : PyData} (h : isT d = true) : ∃ i, d = .tuple i := by
  cases d with
  | tuple i => exact ⟨i, rfl⟩
  | _ => cases h
theorem dd_int {K : PySem.W.Frag} {H : Hp} {v : V} {i : Int} (h : Dd K H v (.int i)) : v = .int i := by
  cases h
  rfl
theorem dd_str {K : PySem.W.Frag} {H : Hp} {v : V} {i : Str} (h : Dd K H v (.str i)) : v = .str i := by
  cases h
  rfl
theorem SqT.same {K : PySem.W.Frag} {H H' : Hp} {a : Addr} {xs : List V} (e : Same H H') (h : SqT K H a xs) : SqT K H' a xs := by
  rcases h with (h | ⟨o, h⟩) | h
  · exact .inl (.inl (e _ _ h))
  · exact .inl (.inr ⟨o, e _ _ h⟩)
  · exact .inr h
/-! ### signs -/
theorem lex1 (c d : Nat) : ([c] < [d]) = (c < d) := by
  simp [List.cons_lt_cons_iff]
theorem le1 {x : Str} {n c : Nat} (h : x.cps.toList = [n]) : (!decide ((⟨#[c]⟩ : Str).cps.toList < x.cps.toList)) = decide (n ≤ c) := by
  rw [h]
  show (!decide ([c] < [n])) = _
  rw [Bool.eq_iff_iff]
  simp [lex1]
theorem le2 {x : Str} {n c : Nat} (h : x.cps.toList = [n]) : (!decide (x.cps.toList < (⟨#[c]⟩ : Str).cps.toList)) = decide (c ≤ n) := by
  rw [h]
  show (!decide ([n] < [c])) = _
  rw [Bool.eq_iff_iff]
  simp [lex1]
def rLeS : R2 := fun x y H Q => ∃ i j, x = .str i ∧ y = .str j ∧ Q (.bl (!decide (j.cps.toList < i.cps.toList))) H
theorem rd_sgn {lo hi : Str} {l h j c : Nat} {σ : L2.St} {H : Hp} {Q : VK} (el : lo.cps.toList = [l]) (eh : hi.cps.toList = [h]) (hσ : σ[j]? = some (some (.str ⟨#[c]⟩))) (q : Q (.bl (rngB l h c)) H) : tChain rLeS rLeS (tC (.str lo)) (tVar j) (tC (.str hi)) σ H Q := by
  refine ⟨_, hσ, lo, ⟨#[c]⟩, rfl, rfl, _, rfl, ?_⟩
  rw [le1 el]
  refine tst (fun e => ⟨_, _, rfl, rfl, ?_⟩) fun e => ?_
  · rw [le2 eh]
    unfold rngB at q
    rw [e, Bool.true_and] at q
    exact q
  · unfold rngB at q
    rw [e, Bool.false_and] at q
    exact q
theorem lc_str {x : Str} {g : TG} {tt : TT} {te : TE} {vs : List Nat} {σ : L2.St} {H1 : Hp} {D : Addr} {Qd : Hp → Prop} (Pv : Nat → Hp → Prop) (h0 : Pv 0 (upd H1 D (.lst [])))
    (hs : ∀ i c H, x.cps.toList[i]? = some c → Pv i H → g (.str ⟨#[c]⟩) (wipe σ vs) H fun σ2 H2 => wipe σ2 vs = wipe σ vs ∧ tt σ2 H2 fun b H3 =>
      if b = true then te σ2 H3 fun y H4 => ∃ acc, H4 D = some (.lst acc) ∧ acc.length < sizeLine ∧ Pv (i + 1) (upd H4 D (.lst (acc ++ [y]))) else Pv (i + 1) H3) (hd : ∀ H, Pv x.cps.toList.length H → Qd H) :
    ∃ W : Nat → Nat → Hp → Prop, (∃ m, W 0 m (upd H1 D (.lst []))) ∧ ∀ i m H, W i m H →
      ((Its x).stop i H ∧ Qd H) ∨ ((Its x).go i H ∧ ∃ Nx : Hp → Prop, (∀ H', Nx H' → ∃ m', m' < m ∧ W (i + 1) m' H') ∧ ∀ x' H', (Its x).yld i H x' H' → g x' (wipe σ vs) H' fun σ2 H2 => wipe σ2 vs = wipe σ vs ∧ tt σ2 H2 fun b H3 =>
        if b = true then te σ2 H3 fun y H4 => ∃ acc, H4 D = some (.lst acc) ∧ acc.length < sizeLine ∧ Nx (upd H4 D (.lst (acc ++ [y]))) else Nx H3) := by
  have sz : x.cps.toList.length = x.cps.size := Array.length_toList
  refine ⟨fun i m H => m = x.cps.size - i ∧ i ≤ x.cps.size ∧ Pv i H, ⟨x.cps.size, by simp, Nat.zero_le _, h0⟩, ?_⟩
  rintro i m H ⟨rfl, hi, p⟩
  by_cases hlt : i < x.cps.size
  · refine .inr ⟨hlt, Pv (i + 1), fun H' p' => ⟨x.cps.size - (i + 1), by omega, rfl, hlt, p'⟩, fun v H' y => ?_⟩
    obtain ⟨rfl, c, hc, rfl⟩ := y
    exact hs i c _ (by rw [Array.getElem?_toList]; exact hc) p
  · have e : i = x.cps.size := by omega
    exact .inl ⟨by show x.cps.size ≤ i; omega, hd H (by rw [sz, ← e]; exact p)⟩
theorem allB {α : Type} (l : List α) (g : α → Bool) : ((l.map g).all id) = l.all g := by
  rw [List.all_map]
  rfl
def rAll (K : PySem.W.Frag) : List V → Hp → VK → Prop := fun xs H Q => ∃ (a : Addr) (bs : List Bool), xs = [.ref a] ∧ SqL K H a (bs.map V.bl) ∧ Q (.bl (bs.all id)) H
/-- all([test of sign for sign in x]) -/
theorem all_sgn {K : PySem.W.Frag} {x : Str} {p : Nat → Bool} {i j : Nat} {te : TE} {σ : L2.St} {H : Hp} {Q : VK} (hσ : σ[i]? = some (some (.str x))) (hz : x.length ≤ 4000) (hw : ∀ v, wipe ((wipe σ [j]).set j v) [j] = wipe σ [j])
    (hte : ∀ (c : Nat) (H : Hp) (Q : VK), Q (.bl (p c)) H → te ((wipe σ [j]).set j (some (.str ⟨#[c]⟩))) H Q) (q : ∀ H', Same H H' → Q (.bl (x.cps.toList.all p)) H') : tCB (rAll K) (tCons (tLc (iStr (tVar i)) (gName j) tYes te [j]) tNil) σ H Q := by
  refine ⟨_, hσ, x, rfl, fun D hD => ?_⟩
  refine lc_str (fun i H' => Same H H' ∧ H' D = some (.lst ((x.cps.toList.take i).map fun d => V.bl (p d)))) ⟨same_up hD, upd_same⟩ (fun i c H' hx e => ?_) (fun H1 e => ?_)
  · refine ⟨hw _, ?_⟩
    refine hte c H' _ ⟨_, e.2, ?_, ?_, ?_⟩
    · have : i < x.cps.toList.length := (List.getElem?_eq_some_iff.mp hx).1
      rw [Array.length_toList] at this
      have h2 : x.cps.size ≤ 4000 := hz
      rw [List.length_map, List.length_take, Array.length_toList, sizeLine_eq]
      omega
    · intro c' o z
      rw [upd_ne (ne_of_none z hD)]
      exact e.1 c' o z
    · rw [upd_same, List.take_add_one, hx, List.map_append]
      rfl
  · refine ⟨D, x.cps.toList.map p, rfl, SqL.of ?_, ?_⟩
    · rw [e.2, List.take_of_length_le (Nat.le_refl _), List.map_map]
      rfl
    · rw [allB]
      exact q H1 e.1
/-- all([test of one for one in t]) -/
theorem all_tup {K : PySem.W.Frag} {a : Addr} {xs : List V} {ds : List PyData} {p : PyData → Bool} {i j : Nat} {te : TE} {σ : L2.St} {H : Hp} {Q : VK} {tp : TE} (htp : ∀ Q' : VK, Q' (.ref a) H → tp σ H Q') (h1 : SqT K H a xs) (hd : DdAll K H xs ds) (hz : ds.length ≤ 4000) (hw : ∀ v, wipe ((wipe σ [j]).set j v) [j] = wipe σ [j])
    (hte : ∀ (v : V) (d : PyData) (H' : Hp) (Q : VK), d ∈ ds → Same H H' → Dd K H' v d → (∀ H'', Same H' H'' → Q (.bl (p d)) H'') → te ((wipe σ [j]).set j (some v)) H' Q) (q : ∀ H', Same H H' → Q (.bl (ds.all p)) H') : tCB (rAll K) (tCons (tLc (iTup K tp) (gName j) tYes te [j]) tNil) σ H Q := by
  have hx0 : xs.length = ds.length := dall_len hd
  refine htp _ ⟨a, rfl, ⟨_, h1⟩, fun D hD => ?_⟩
  refine lc_tup (xs := xs) (fun i H' => Same H H' ∧ H' D = some (.lst ((ds.take i).map fun d => V.bl (p d)))) ⟨same_up hD, upd_same⟩ (fun i H' _ e => SqT.same e.1 h1) (fun i x H' hx e => ?_) (fun H1 e => ?_)
  · obtain ⟨d, he, hdd⟩ := dall_at' hd hx
    have il : i < ds.length := (List.getElem?_eq_some_iff.mp he).1
    refine ⟨hw _, ?_⟩
    refine hte x d H' _ (List.mem_of_getElem? he) e.1 (Dd.same e.1 hdd) fun H2 s2 => ⟨_, s2 _ _ e.2, ?_, ?_, ?_⟩
    · rw [List.length_map, List.length_take, sizeLine_eq]
      omega
    · intro c' o z
      rw [upd_ne (ne_of_none z hD)]
      exact s2 _ _ (e.1 c' o z)
    · rw [upd_same, List.take_add_one, he, List.map_append]
      rfl
  · refine ⟨D, ds.map p, rfl, SqL.of ?_, ?_⟩
    · rw [e.2, hx0, List.take_of_length_le (Nat.le_refl _), List.map_map]
      rfl
    · rw [allB]
      exact q H1 e.1
section
variable {P : Program} {w : World} {K : PySem.W.Frag} {mg : Str → Option Value} {base : Heap}
/-- a look at a thing -/
def spA (K : PySem.W.Frag) (g : PyData → Bool) : Sp := fun vs H Q _ => ∃ (v : V) (d : PyData), vs = [v] ∧ Dd K H v d ∧ okD d = true ∧ ∀ H', Same H H' → Q (.bl (g d)) H'
theorem spA_len {g : PyData → Bool} {x : Str} : ∀ vs H Q E, spA K g vs H Q E → vs.length = [x].length := fun vs H Q E h => by
  obtain ⟨v, d, rfl, _⟩ := h
  rfl
/-- what the module's names stand for -/
structure Nm (mg : Str → Option Value) : Prop where
  isinstance : mg "isinstance" = none
  int : mg "int" = none
  bool : mg "bool" = none
  tuple : mg "tuple" = none
  list : mg "list" = none
  str : mg "str" = none
  len : mg "len" = none
  all : mg "all" = none
  zip : mg "zip" = none
  range : mg "range" = none
  ord : mg "ord" = none
  LONGEST_WORD_ : ∃ t, mg "LONGEST_WORD" = some (.int 20 t)
  LONGEST_NAME_ : ∃ t, mg "LONGEST_NAME" = some (.int 8 t)
  LEAST_PRIME_ : ∃ t, mg "LEAST_PRIME" = some (.int 1000 t)
  GREATEST_PRIME_ : ∃ t, mg "GREATEST_PRIME" = some (.int 170141183460469231731687303715884105728 t)
  BEFORE_BLANK_ : ∃ t, mg "BEFORE_BLANK" = some (.int 31 t)
abbrev DA (P : Program) (w : World) (K : PySem.W.Frag) (mg : Str → Option Value) (base : Heap) (x : Str) (k : Nat) (g : PyData → Bool) : Prop := Df P w K mg base x k ["thing"] (spA K g)
/-! ### the program's looks -/
theorem scInteger : FnScope ["thing"] ["thing"] (defScope sInteger) := ⟨rfl, rfl, rfl, by decide +kernel, rfl, by decide +kernel, by decide +kernel⟩
theorem ok_integer {f : Addr} {fd : FuncData} (F : FnP K "is_integer" sInteger f fd) (M : Nm mg) : FnOk P w K mg base CX0 1 f fd ["thing"] (spA K intD) := by
  refine F.ok scInteger spA_len (fun cdv A outer s H vs Q E hr h => ?_)
  obtain ⟨v, d, rfl, hd, _, q⟩ := h
  refine ⟨_, PSs.nox (pss_one (ps_ret (pe_and (pe_callB (id := "isinstance") (r := rIsi K) call_isi (by rfl) M.isinstance (by decide +kernel) (pa_cons (pv 0) (pa_cons (ty_cls (n := "int") M.int (by rfl) (by decide +kernel)) pa_nil))) (pe_one (pe_not (pe_callB (id := "isinstance") (r := rIsi K) call_isi (by rfl) M.isinstance (by decide +kernel) (pa_cons (pv 0) (pa_cons (ty_cls (n := "bool") M.bool (by rfl) (by decide +kernel)) pa_nil)))))))), ?_⟩
  have q := q H (Same.refl H)
  refine ⟨_, rfl, _, _, _, _, _, rfl, .ty _, tyx hd, kit_ty (kI d), _, rfl, tst (fun e => ⟨_, rfl, _, _, _, _, _, rfl, .ty _, tyx hd, kit_ty (kB d), _, rfl, ?_⟩) fun e => ?_⟩
  · show Q (.bl (!isB d)) H
    unfold intD at q
    rw [e, Bool.true_and] at q
    exact q
  · show Q (.bl false) H
    unfold intD at q
    rw [e, Bool.false_and] at q
    exact q
theorem scWord : FnScope ["thing", "sign"] ["thing"] (defScope sWord) := ⟨rfl, rfl, rfl, by decide +kernel, rfl, by decide +kernel, by decide +kernel⟩
theorem ok_word {f : Addr} {fd : FuncData} (F : FnP K "is_word" sWord f fd) (M : Nm mg) : FnOk P w K mg base CX0 1 f fd ["thing"] (spA K wordD) := by
  obtain ⟨tw, hw⟩ := M.LONGEST_WORD_
  refine F.ok scWord spA_len (fun cdv A outer s H vs Q E hr h => ?_)
  obtain ⟨v, d, rfl, hd, ok, q⟩ := h
  refine ⟨_, PSs.nox (pss_cons (ps_if (PW.pt (pw_or (pt_not (pt_val (pe_callB (id := "isinstance") (r := rIsi K) call_isi (by rfl) M.isinstance (by decide +kernel) (pa_cons (pv 0) (pa_cons (ty_cls (n := "str") M.str (by rfl) (by decide +kernel)) pa_nil))))) (pw_or1 (pt_cmpR op_gt (pe_callB call_len_str (by rfl) M.len PySem.boot_len (pa_cons (pv 0) pa_nil)) (pe_glob (v := .int 20) (by rfl) hw ⟨tw, rfl⟩) (nomark _))))) (pss_one (ps_ret pe_bl)) pss_nil)
      (pss_one (ps_ret (pe_callB (r := rAll K) (cr_all rfl) (by rfl) M.all (by decide +kernel) (pa_cons (pe_lc (own := [("sign", 1)]) (g := gName 1) (tt := tYes) (by rfl) scWord.nd (pi_str (pv 0)) (blkOk_by (N := ["thing", "sign"]) (sc := defScope sWord) (by decide +kernel)) (fun _ _ _ _ _ => pg_name (i := 1) scWord.nd rfl (Or.inl rfl)) (fun _ _ _ _ _ => pts_nil) (fun _ _ _ _ _ => (pe_chain (r := rLeS) (r' := rLeS) op_le_str op_le_str pe_str (pv 1) pe_str))) pa_nil))))), ?_⟩
  refine ⟨_, rfl, _, _, _, _, _, rfl, .ty _, tyx hd, kit_ty (kS d), _, rfl, tst (fun e => ?_) fun e => ?_⟩
  · have z : wordD d = false := by cases d <;> first | rfl | cases e
    have q2 := q H (Same.refl H)
    rw [z] at q2
    exact iteT q2
  obtain ⟨x, rfl⟩ := isS_of (show isS d = true by simpa using e)
  cases dd_str hd
  have hz := ok_str ok
  refine ⟨_, rfl, x, rfl, by rw [sizeLine_eq]; omega, _, _, rfl, rfl, _, rfl, tst (fun e2 => ?_) fun e2 => ?_⟩
  · have z : wordD (.str x) = false := by
      have h1 := of_decide_eq_true e2
      show (decide (x.length ≤ 20) && _) = false
      rw [decide_eq_false (by omega), Bool.false_and]
    have q2 := q H (Same.refl H)
    rw [z] at q2
    exact q2
  · refine all_sgn (p := rngB 32 126) (i := 0) (j := 1) rfl hz (fun _ => rfl) (fun c H Q q => rd_sgn (l := 32) (h := 126) (by decide) (by decide) rfl q) fun H' s => ?_
    have q2 := q H' s
    have h1 := of_decide_eq_false e2
    have z : wordD (.str x) = sgn 32 126 x := by
      show (decide (x.length ≤ 20) && _) = _
      rw [decide_eq_true (by omega), Bool.true_and]
    rw [z] at q2
    exact q2
theorem scWorth : FnScope ["thing"] ["thing"] (defScope sWorth) := ⟨rfl, rfl, rfl, by decide +kernel, rfl, by decide +kernel, by decide +kernel⟩
theorem ok_worth {f : Addr} {fd : FuncData} (F : FnP K "is_free_worth" sWorth f fd) (DI : DA P w K mg base "is_integer" 1 intD) (DW : DA P w K mg base "is_word" 1 wordD) : FnOk P w K mg base CX0 2 f fd ["thing"] (spA K worthD) := by
  refine F.ok scWorth spA_len (fun cdv A outer s H vs Q E hr h => ?_)
  obtain ⟨v, d, rfl, hd, ok, q⟩ := h
  refine ⟨_, PSs.nox (pss_one (ps_ret (pe_or (pe_df DI hr (by decide) (pa_cons (pv 0) pa_nil)) (pe_one (pe_df DW hr (by decide) (pa_cons (pv 0) pa_nil)))))), ?_⟩
  refine ⟨_, rfl, v, d, rfl, hd, ok, fun H1 s1 => ⟨_, rfl, tst (fun e => ?_) fun e => ?_⟩⟩
  · have q2 := q H1 s1
    unfold worthD at q2
    rw [e, Bool.true_or] at q2
    exact q2
  · refine ⟨_, rfl, v, d, rfl, hd.same s1, ok, fun H2 s2 => ?_⟩
    have q2 := q H2 (s1.trans s2)
    unfold worthD at q2
    rw [e, Bool.false_or] at q2
    exact q2
theorem scName : FnScope ["thing", "sign"] ["thing"] (defScope sName) := ⟨rfl, rfl, rfl, by decide +kernel, rfl, by decide +kernel, by decide +kernel⟩
theorem ok_name {f : Addr} {fd : FuncData} (F : FnP K "is_name" sName f fd) (M : Nm mg) : FnOk P w K mg base CX0 1 f fd ["thing"] (spA K nameD) := by
  obtain ⟨tw, hw⟩ := M.LONGEST_NAME_
  refine F.ok scName spA_len (fun cdv A outer s H vs Q E hr h => ?_)
  obtain ⟨v, d, rfl, hd, ok, q⟩ := h
  refine ⟨_, PSs.nox (pss_cons (ps_if (PW.pt (pw_or (pt_not (pt_val (pe_callB (id := "isinstance") (r := rIsi K) call_isi (by rfl) M.isinstance (by decide +kernel) (pa_cons (pv 0) (pa_cons (ty_cls (n := "str") M.str (by rfl) (by decide +kernel)) pa_nil))))) (pw_or1 (pt_not (pt_chain op_le op_le pe_int (pe_callB call_len_str (by rfl) M.len PySem.boot_len (pa_cons (pv 0) pa_nil)) (pe_glob (v := .int 8) (by rfl) hw ⟨tw, rfl⟩)))))) (pss_one (ps_ret pe_bl)) pss_nil)
      (pss_one (ps_ret (pe_callB (r := rAll K) (cr_all rfl) (by rfl) M.all (by decide +kernel) (pa_cons (pe_lc (own := [("sign", 1)]) (g := gName 1) (tt := tYes) (by rfl) scName.nd (pi_str (pv 0)) (blkOk_by (N := ["thing", "sign"]) (sc := defScope sName) (by decide +kernel)) (fun _ _ _ _ _ => pg_name (i := 1) scName.nd rfl (Or.inl rfl)) (fun _ _ _ _ _ => pts_nil) (fun _ _ _ _ _ => (pe_chain (r := rLeS) (r' := rLeS) op_le_str op_le_str pe_str (pv 1) pe_str))) pa_nil))))), ?_⟩
  refine ⟨_, rfl, _, _, _, _, _, rfl, .ty _, tyx hd, kit_ty (kS d), _, rfl, tst (fun e => ?_) fun e => ?_⟩
  · have z : nameD d = false := by cases d <;> first | rfl | cases e
    have q2 := q H (Same.refl H)
    rw [z] at q2
    exact iteT q2
  obtain ⟨x, rfl⟩ := isS_of (show isS d = true by simpa using e)
  cases dd_str hd
  have hz := ok_str ok
  have no : (decide (1 ≤ x.length) && decide (x.length ≤ 8)) = false → Q (.bl false) H := fun n => by
    have q2 := q H (Same.refl H)
    have z : nameD (.str x) = false := by
      show ((decide (1 ≤ x.length) && decide (x.length ≤ 8)) && _) = false
      rw [n, Bool.false_and]
    rw [z] at q2
    exact q2
  refine ⟨_, rfl, x, rfl, by rw [sizeLine_eq]; omega, _, _, rfl, rfl, _, rfl, tst (fun e1 => ⟨_, _, rfl, rfl, _, rfl, tst (fun e2 => ?_) fun e2 => ?_⟩) fun e1 => ⟨_, rfl, iteT ?_⟩⟩
  · have h1 : decide ((x.length : Int) ≤ 8) = false := by simpa using e2
    have h2 := of_decide_eq_false h1
    exact no (by rw [show decide (x.length ≤ 8) = false from decide_eq_false (by omega), Bool.and_false])
  · refine all_sgn (p := rngB 97 122) (i := 0) (j := 1) rfl hz (fun _ => rfl) (fun c H Q q => rd_sgn (l := 97) (h := 122) (by decide) (by decide) rfl q) fun H' s => ?_
    have q2 := q H' s
    have h1 := of_decide_eq_true e1
    have h2 : decide ((x.length : Int) ≤ 8) = true := by simpa using e2
    have h3 := of_decide_eq_true h2
    have z : nameD (.str x) = sgn 97 122 x := by
      show ((decide (1 ≤ x.length) && decide (x.length ≤ 8)) && _) = _
      rw [decide_eq_true (by omega), decide_eq_true (by omega), Bool.true_and, Bool.true_and]
    rw [z] at q2
    exact q2
  · have h1 := of_decide_eq_false e1
    exact no (by rw [show decide (1 ≤ x.length) = false from decide_eq_false (by omega), Bool.false_and])
def spTupOf (K : PySem.W.Frag) : Sp := fun vs H Q _ => ∃ (v : V) (d : PyData) (lo hi : Int), vs = [v, .int lo, .int hi] ∧ Dd K H v d ∧ Q (.bl (tupOfD lo hi d)) H
theorem scTupleOf : FnScope ["thing", "least", "most"] ["thing", "least", "most"] (defScope sTupleOf) := ⟨rfl, rfl, rfl, by decide +kernel, rfl, by decide +kernel, by decide +kernel⟩
theorem ok_tupleOf {f : Addr} {fd : FuncData} (F : FnP K "is_tuple_of" sTupleOf f fd) (M : Nm mg) : FnOk P w K mg base CX0 1 f fd ["thing", "least", "most"] (spTupOf K) := by
  refine F.ok scTupleOf (fun vs H Q E h => ?_) (fun cdv A outer s H vs Q E hr h => ?_)
  · obtain ⟨v, d, lo, hi, rfl, _⟩ := h
    rfl
  · obtain ⟨v, d, lo, hi, rfl, hd, q⟩ := h
    refine ⟨_, PSs.nox (pss_one (ps_ret (pe_and (pe_callB (id := "isinstance") (r := rIsi K) call_isi (by rfl) M.isinstance (by decide +kernel) (pa_cons (pv 0) (pa_cons (ty_cls (n := "tuple") M.tuple (by rfl) (by decide +kernel)) pa_nil))) (pe_one (pe_chain op_le op_le (pv 1) (pe_callB call_len_seq (by rfl) M.len PySem.boot_len (pa_cons (pv 0) pa_nil)) (pv 2)))))), ?_⟩
    refine ⟨_, rfl, _, _, _, _, _, rfl, .ty _, tyx hd, kit_ty (kT d), _, rfl, tst (fun e => ?_) fun e => ?_⟩
    · cases hd with
      | tup h0 h2 =>
        rename_i p xs ds
        have h1 := h0.sq (K := K)
        refine ⟨_, rfl, _, rfl, p, xs, rfl, .inr h1, _, _, rfl, rfl, _, rfl, tst (fun e2 => ⟨_, rfl, _, _, rfl, rfl, ?_⟩) fun e2 => ?_⟩
        · have q2 : Q (.bl (decide (lo ≤ (ds.length : Int)) && decide ((ds.length : Int) ≤ hi))) H := q
          rw [← dall_len h2, show decide (lo ≤ (xs.length : Int)) = true from e2, Bool.true_and] at q2
          exact q2
        · have q2 : Q (.bl (decide (lo ≤ (ds.length : Int)) && decide ((ds.length : Int) ≤ hi))) H := q
          rw [← dall_len h2, show decide (lo ≤ (xs.length : Int)) = false from e2, Bool.false_and] at q2
          exact q2
      | _ => cases e
    · have z : tupOfD lo hi d = false := by
        cases d with
        | tuple ds => cases e
        | _ => rfl
      rw [z] at q
      exact q
abbrev DTup (P : Program) (w : World) (K : PySem.W.Frag) (mg : Str → Option Value) (base : Heap) : Prop := Df P w K mg base "is_tuple_of" 1 ["thing", "least", "most"] (spTupOf K)
theorem scRow : FnScope ["thing", "worth"] ["thing"] (defScope sRow) := ⟨rfl, rfl, rfl, by decide +kernel, rfl, by decide +kernel, by decide +kernel⟩
theorem ok_row {f : Addr} {fd : FuncData} (F : FnP K "is_free_row" sRow f fd) (M : Nm mg) (DT : DTup P w K mg base) (DW : DA P w K mg base "is_free_worth" 2 worthD) : FnOk P w K mg base CX0 3 f fd ["thing"] (spA K rowD) := by
  refine F.ok scRow spA_len (fun cdv A outer s H vs Q E hr h => ?_)
  obtain ⟨v, d, rfl, hd, ok, q⟩ := h
  refine ⟨_, PSs.nox (pss_one (ps_ret (pe_and (pe_df DT hr (by decide) (pa_cons (pv 0) (pa_cons pe_int (pa_cons pe_int pa_nil)))) (pe_one (pe_callB (r := rAll K) (cr_all rfl) (by rfl) M.all (by decide +kernel) (pa_cons (pe_lc (own := [("worth", 1)]) (g := gName 1) (tt := tYes) (by rfl) scRow.nd (pi_tup (pv 0)) (blkOk_by (N := ["thing", "worth"]) (sc := defScope sRow) (by decide +kernel)) (fun _ _ _ _ _ => pg_name (i := 1) scRow.nd rfl (Or.inl rfl)) (fun _ _ _ _ _ => pts_nil) (fun _ _ _ _ _ => (pe_df DW hr (by decide) (pa_cons (pv 1) pa_nil)))) pa_nil)))))), ?_⟩
  refine ⟨_, rfl, v, d, 1, 5, rfl, hd, _, rfl, tst (fun e => ?_) fun e => ?_⟩
  · cases d with
    | tuple ds =>
      cases hd with
      | tup h0 h2 =>
        obtain ⟨o1, o2⟩ := ok_tup ok
        refine all_tup (p := worthD) (i := 0) (j := 1) (fun Q' z => ⟨_, rfl, z⟩) (h0.sq (K := K)) h2 o1 (fun _ => rfl) (fun v d H' Q m s hd z => ⟨_, rfl, v, d, rfl, hd, okAll_mem o2 m, z⟩) fun H' s => ?_
        have q2 := q H' s
        have z : rowD (.tuple ds) = ds.all worthD := by
          show ((decide ((1 : Int) ≤ (ds.length : Int)) && decide ((ds.length : Int) ≤ 5)) && _) = _
          rw [show (decide ((1 : Int) ≤ (ds.length : Int)) && decide ((ds.length : Int) ≤ 5)) = true from e, Bool.true_and]
        rw [z] at q2
        exact q2
    | _ => cases e
  · have z : rowD d = false := by
      cases d with
      | tuple ds =>
        show ((decide ((1 : Int) ≤ (ds.length : Int)) && decide ((ds.length : Int) ≤ 5)) && _) = _
        rw [show (decide ((1 : Int) ≤ (ds.length : Int)) && decide ((ds.length : Int) ≤ 5)) = false from e, Bool.false_and]
      | _ => rfl
    have q2 := q H (Same.refl H)
    rw [z] at q2
    exact q2
theorem scPrime : FnScope ["thing"] ["thing"] (defScope sPrime) := ⟨rfl, rfl, rfl, by decide +kernel, rfl, by decide +kernel, by decide +kernel⟩
theorem ok_prime {f : Addr} {fd : FuncData} (F : FnP K "is_prime" sPrime f fd) (M : Nm mg) (DI : DA P w K mg base "is_integer" 1 intD) : FnOk P w K mg base CX0 2 f fd ["thing"] (spA K primeD) := by
  obtain ⟨tl, hl⟩ := M.LEAST_PRIME_
  obtain ⟨tg, hg⟩ := M.GREATEST_PRIME_
  refine F.ok scPrime spA_len (fun cdv A outer s H vs Q E hr h => ?_)
  obtain ⟨v, d, rfl, hd, ok, q⟩ := h
  refine ⟨_, PSs.nox (pss_one (ps_ret (pe_and (pe_df DI hr (by decide) (pa_cons (pv 0) pa_nil)) (pe_one (pe_chain op_le op_le (pe_glob (v := .int 1000) (by rfl) hl ⟨tl, rfl⟩) (pv 0) (pe_glob (v := .int 170141183460469231731687303715884105728) (by rfl) hg ⟨tg, rfl⟩)))))), ?_⟩
  refine ⟨_, rfl, v, d, rfl, hd, ok, fun H1 s1 => ⟨_, rfl, tst (fun e => ?_) fun e => ?_⟩⟩
  · obtain ⟨i, rfl⟩ := intD_of e
    cases dd_int hd
    have q2 : Q (.bl (decide (1000 ≤ i) && decide (i ≤ 170141183460469231731687303715884105728))) H1 := q H1 s1
    refine ⟨_, rfl, _, _, rfl, rfl, _, rfl, tst (fun e2 => ⟨_, _, rfl, rfl, ?_⟩) fun e2 => ?_⟩
    · rw [show decide (1000 ≤ i) = true from e2, Bool.true_and] at q2
      exact q2
    · rw [show decide (1000 ≤ i) = false from e2, Bool.false_and] at q2
      exact q2
  · have z : primeD d = false := by
      cases d with
      | int i => cases e
      | _ => rfl
    have q2 := q H1 s1
    rw [z] at q2
    exact q2
theorem scText : FnScope ["thing", "sign"] ["thing"] (defScope sText) := ⟨rfl, rfl, rfl, by decide +kernel, rfl, by decide +kernel, by decide +kernel⟩
theorem nl_eq (c : Nat) : decide (V.str ⟨#[c]⟩ = V.str ("\n" : Str)) = decide (c = 10) := by
  have e : ("\n" : Str) = ⟨#[10]⟩ := by decide
  rw [e, Bool.eq_iff_iff]
  simp
theorem ok_text {f : Addr} {fd : FuncData} (F : FnP K "is_text" sText f fd) (M : Nm mg) : FnOk P w K mg base CX0 1 f fd ["thing"] (spA K textD) := by
  refine F.ok scText spA_len (fun cdv A outer s H vs Q E hr h => ?_)
  obtain ⟨v, d, rfl, hd, ok, q⟩ := h
  refine ⟨_, PSs.nox (pss_one (ps_ret (pe_and (pe_callB (id := "isinstance") (r := rIsi K) call_isi (by rfl) M.isinstance (by decide +kernel) (pa_cons (pv 0) (pa_cons (ty_cls (n := "str") M.str (by rfl) (by decide +kernel)) pa_nil))) (pe_one (pe_callB (r := rAll K) (cr_all rfl) (by rfl) M.all (by decide +kernel) (pa_cons (pe_lc (own := [("sign", 1)]) (g := gName 1) (tt := tYes) (by rfl) scText.nd (pi_str (pv 0)) (blkOk_by (N := ["thing", "sign"]) (sc := defScope sText) (by decide +kernel)) (fun _ _ _ _ _ => pg_name (i := 1) scText.nd rfl (Or.inl rfl)) (fun _ _ _ _ _ => pts_nil) (fun _ _ _ _ _ => (pe_or (pe_chain (r := rLeS) (r' := rLeS) op_le_str op_le_str pe_str (pv 1) pe_str) (pe_one (pe_cmpR op_eq (pv 1) pe_str (nomark _)))))) pa_nil)))))), ?_⟩
  refine ⟨_, rfl, _, _, _, _, _, rfl, .ty _, tyx hd, kit_ty (kS d), _, rfl, tst (fun e => ?_) fun e => ?_⟩
  · obtain ⟨x, rfl⟩ := isS_of e
    cases dd_str hd
    refine all_sgn (p := signB) (i := 0) (j := 1) rfl (ok_str ok) (fun _ => rfl) (fun c H Q q => ?_) fun H' s => q H' s
    refine rd_sgn (l := 32) (h := 126) (by decide) (by decide) rfl ⟨_, rfl, tst (fun e => ?_) fun e => ⟨_, rfl, rfl, ?_⟩⟩
    · unfold signB at q
      rw [e, Bool.true_or] at q
      exact q
    · unfold signB at q
      rw [e, Bool.false_or] at q
      rw [nl_eq]
      exact q
  · have z : textD d = false := by
      cases d with
      | str i => cases e
      | _ => rfl
    have q2 := q H (Same.refl H)
    rw [z] at q2
    exact q2
theorem tup2 {d : PyData} (h : tupOfD 2 2 d = true) : ∃ x y, d = .tuple [x, y] := by
  cases d with
  | tuple ds =>
    obtain ⟨h1, h2⟩ := Bool.and_eq_true_iff.mp (show (decide ((2 : Int) ≤ (ds.length : Int)) && decide ((ds.length : Int) ≤ 2)) = true from h)
    have h3 := of_decide_eq_true h1
    have h4 := of_decide_eq_true h2
    match ds, h3, h4 with
    | [x, y], _, _ => exact ⟨x, y, rfl⟩
    | [], h3, _ => simp at h3
    | [_], h3, _ => simp at h3
    | _ :: _ :: _ :: _, _, h4 =>
      simp only [List.length_cons] at h4
      omega
  | _ => cases h
theorem no2 {d : PyData} (h : tupOfD 2 2 d = false) : factD d = false ∧ ruleD d = false := by
  cases d with
  | tuple ds => match ds, h with
    | [x, y], h => cases h
    | [], _ => exact ⟨rfl, rfl⟩
    | [_], _ => exact ⟨rfl, rfl⟩
    | _ :: _ :: _ :: _, _ => exact ⟨rfl, rfl⟩
  | _ => exact ⟨rfl, rfl⟩
theorem rule2 {t y : PyData} : ruleD (.tuple [t, y]) = (nameD t && textD y) := rfl
/-- the two of a pair -/
theorem dd_two {H : Hp} {v : V} {x y : PyData} (h : Dd K H v (.tuple [x, y])) : ∃ p u1 u2, v = .ref p ∧ TupN H p [u1, u2] ∧ Dd K H u1 x ∧ Dd K H u2 y := by
  cases h with
  | tup h0 h2 =>
    cases h2 with
    | cons g1 g2 =>
    cases g2 with
    | cons g3 g4 =>
    cases g4
    exact ⟨_, _, _, rfl, h0, g1, g3⟩
theorem ok_two {x y : PyData} (h : okD (.tuple [x, y]) = true) : okD x = true ∧ okD y = true := by
  obtain ⟨_, h2⟩ := ok_tup h
  exact ⟨okAll_mem h2 List.mem_cons_self, okAll_mem h2 (List.mem_cons_of_mem _ List.mem_cons_self)⟩
theorem scFact : FnScope ["thing", "name", "row"] ["thing"] (defScope sFact) := ⟨rfl, rfl, rfl, by decide +kernel, rfl, by decide +kernel, by decide +kernel⟩
theorem ok_fact {f : Addr} {fd : FuncData} (F : FnP K "is_fact" sFact f fd) (DT : DTup P w K mg base) (DN : DA P w K mg base "is_name" 1 nameD) (DX : DA P w K mg base "is_text" 1 textD) (DR : DA P w K mg base "is_free_row" 3 rowD) : FnOk P w K mg base CX0 4 f fd ["thing"] (spA K factD) := by
  refine F.ok scFact spA_len (fun cdv A outer s H vs Q E hr h => ?_)
  obtain ⟨v, d, rfl, hd, ok, q⟩ := h
  refine ⟨_, PSs.nox (pss_cons (ps_if (PW.pt (pw_or (pt_not (pt_val (pe_df DT hr (by decide) (pa_cons (pv 0) (pa_cons pe_int (pa_cons pe_int pa_nil)))))) (pw_or1 (pt_not (pt_val (pe_df DN hr (by decide) (pa_cons (pe_ix ix_tup (pv 0) pe_int (fun _ _ => rfl)) pa_nil))))))) (pss_one (ps_ret pe_bl)) pss_nil)
      (pss_cons (ps_asg (pv 0) (pg_tup rfl (pgs_cons (pg_name (i := 1) scFact.nd rfl (Or.inl rfl)) (pgs_cons (pg_name (i := 2) scFact.nd rfl (Or.inl rfl)) pgs_nil))))
      (pss_cons (ps_if (pt_cmpR op_eq (pv 1) pe_str (nomark _)) (pss_one (ps_ret (pe_and (pe_df DT hr (by decide) (pa_cons (pv 2) (pa_cons pe_int (pa_cons pe_int pa_nil)))) (pe_and (pe_df DN hr (by decide) (pa_cons (pe_ix ix_tup (pv 2) pe_int (fun _ _ => rfl)) pa_nil)) (pe_one (pe_df DX hr (by decide) (pa_cons (pe_ix ix_tup (pv 2) pe_int (fun _ _ => rfl)) pa_nil))))))) pss_nil)
      (pss_one (ps_ret (pe_df DR hr (by decide) (pa_cons (pv 2) pa_nil))))))), ?_⟩
  refine ⟨_, rfl, v, d, 2, 2, rfl, hd, _, rfl, tst (fun e => ?_) fun e => ?_⟩
  · have q2 := q H (Same.refl H)
    rw [(no2 (show tupOfD 2 2 d = false by simpa using e)).1] at q2
    exact iteT q2
  obtain ⟨n, r, rfl⟩ := tup2 (show tupOfD 2 2 d = true by simpa using e)
  obtain ⟨p, u1, u2, rfl, h0, g1, g2⟩ := dd_two hd
  obtain ⟨on, or_⟩ := ok_two ok
  refine ⟨_, rfl, p, _, _, u1, rfl, rfl, h0.sq, atI_nat (j := 0) rfl, u1, n, rfl, g1, on, fun H1 s1 => ⟨_, rfl, tst (fun e2 => ?_) fun e2 => ?_⟩⟩
  · have q2 := q H1 s1
    have z : factD (.tuple [n, r]) = false := by
      show (nameD n && _) = false
      rw [show nameD n = false by simpa using e2, Bool.false_and]
    rw [z] at q2
    exact q2
  have en : nameD n = true := by simpa using e2
  have zf : factD (.tuple [n, r]) = if isR n = true then ruleD r else rowD r := by
    show (nameD n && _) = _
    rw [en, Bool.true_and]
  obtain ⟨x, rfl⟩ : ∃ x, n = .str x := by
    cases n with
    | str x => exact ⟨x, rfl⟩
    | _ => cases en
  cases dd_str g1
  refine ⟨_, rfl, p, _, rfl, (h0.same s1).sq, rfl, _, _, rfl, _, _, rfl, rfl, ?_⟩
  refine ⟨_, rfl, rfl, _, rfl, tst (fun e3 => ?_) fun e3 => ?_⟩
  · have ei : isR (.str x) = true := by
      have h1 := of_decide_eq_true e3
      injection h1 with h1
      exact decide_eq_true h1
    rw [ei, if_pos rfl] at zf
    refine ⟨_, rfl, u2, r, 2, 2, rfl, g2.same s1, _, rfl, tst (fun e4 => ?_) fun e4 => ?_⟩
    · obtain ⟨t, y, rfl⟩ := tup2 e4
      obtain ⟨p2, w1, w2, rfl, h3, g3, g4⟩ := dd_two g2
      obtain ⟨ot, oy⟩ := ok_two or_
      refine ⟨_, rfl, p2, _, _, w1, rfl, rfl, (h3.same s1).sq, atI_nat (j := 0) rfl, w1, t, rfl, g3.same s1, ot, fun H2 s2 => ⟨_, rfl, tst (fun e5 => ?_) fun e5 => ?_⟩⟩
      · refine ⟨_, rfl, p2, _, _, w2, rfl, rfl, (h3.same (s1.trans s2)).sq, atI_nat (j := 1) rfl, w2, y, rfl, g4.same (s1.trans s2), oy, fun H3 s3 => ?_⟩
        have q2 := q H3 ((s1.trans s2).trans s3)
        rw [zf, rule2, e5, Bool.true_and] at q2
        exact q2
      · have q2 := q H2 (s1.trans s2)
        rw [zf, rule2, e5, Bool.false_and] at q2
        exact q2
    · have q2 := q H1 s1
      rw [zf, (no2 e4).2] at q2
      exact q2
  · have ei : isR (.str x) = false := by
      have h1 := of_decide_eq_false e3
      exact decide_eq_false fun h => h1 (by rw [h])
    rw [ei] at zf
    refine ⟨_, rfl, u2, r, rfl, g2.same s1, or_, fun H2 s2 => ?_⟩
    have q2 := q H2 (s1.trans s2)
    rw [zf] at q2
    exact q2
end
end Sm
namespace Sm
open PySem PySem.Spec PyProof.Rows L2 Vd CwR
/-! ### texts -/
def repS (x : Str) : Str := Txt.replace (Txt.replace x ("~" : Str) ("~~" : Str)) ("'" : Str) ("~'" : Str)
def wtext : PyData → Str
  | .str x => (("'" : Str) ++ repS x) ++ ("'" : Str)
  | .int i => Str.ofString (toString i)
  | _ => Str.empty
def joinT (ws : List PyData) : Str := Txt.join ("," : Str) (ws.map wtext)
def ftext : PyData → Str
  | .tuple [.str n, .tuple ws] => ((n ++ ("(" : Str)) ++ joinT ws) ++ (")" : Str)
  | _ => Str.empty
theorem len_app (a b : Str) : (a ++ b).length = a.length + b.length := by
  show (a.cps ++ b.cps).size = a.cps.size + b.cps.size
  exact Array.size_append
theorem list_app (a b : Str) : (a ++ b).cps.toList = a.cps.toList ++ b.cps.toList := by
  show (a.cps ++ b.cps).toList = _
  exact Array.toList_append
theorem emp_app (a : Str) : Str.empty ++ a = a := by
  obtain ⟨l⟩ := a
  show (⟨#[] ++ l⟩ : Str) = ⟨l⟩
  rw [Array.empty_append]
theorem rep_len1 {x y z : Str} {n k : Nat} (h : x.length ≤ n) (hz : z.length ≤ k) : (Txt.replace x y z).length ≤ n + (n + 1) * k := by
  have h1 := TK.replace_len x y z
  have h2 : (x.length + 1) * z.length ≤ (n + 1) * k := Nat.mul_le_mul (by omega) hz
  omega
theorem rep_lenA {x : Str} (h : x.length ≤ 4000) : (Txt.replace x ("~" : Str) ("~~" : Str)).length ≤ 12002 := rep_len1 (n := 4000) (k := 2) h (by decide)
theorem rep_len {x : Str} (h : x.length ≤ 4000) : (repS x).length ≤ 36008 := rep_len1 (n := 12002) (k := 2) (rep_lenA h) (by decide)
/-- signs below 2 ^ 32 -/
def Sml (x : Str) : Prop := ∀ c ∈ x.cps.toList, c < 4294967296
theorem sml_app {a b : Str} (h : Sml a) (k : Sml b) : Sml (a ++ b) := fun c hc => by
  rw [list_app] at hc
  rcases List.mem_append.mp hc with hc | hc
  · exact h c hc
  · exact k c hc
theorem sml_of (s : String) : Sml (Str.ofString s) := fun c hc => by
  rw [Str.ofString_eq_toList] at hc
  obtain ⟨ch, _, rfl⟩ := List.mem_map.mp hc
  exact ch.val.toNat_lt
theorem mem_repl {y z : List Nat} {c : Nat} : ∀ (s : Nat) (l : List Nat), c ∈ StrLaws.replS y z s l → c ∈ l ∨ c ∈ z
  | _, [], h => by
    rw [StrLaws.replS] at h
    exact .inl h
  | 0, d :: r, h => by
    rw [StrLaws.replS] at h
    split at h
    · rcases List.mem_append.mp h with h | h
      · exact .inr h
      · exact (mem_repl _ r h).imp (List.mem_cons_of_mem _) id
    · rcases List.mem_cons.mp h with h | h
      · exact .inl (h ▸ List.mem_cons_self)
      · exact (mem_repl _ r h).imp (List.mem_cons_of_mem _) id
  | s + 1, d :: r, h => by
    rw [StrLaws.replS] at h
    exact (mem_repl s r h).imp (List.mem_cons_of_mem _) id
theorem sml_rep {x y z : Str} (hy : 1 ≤ y.length) (h : Sml x) (k : Sml z) : Sml (Txt.replace x y z) := fun c hc => by
  rw [StrLaws.replace_list hy] at hc
  rcases mem_repl 0 _ hc with hc | hc
  · exact h c hc
  · exact k c hc
theorem sml_repS {x : Str} (h : Sml x) : Sml (repS x) := sml_rep (by decide) (sml_rep (by decide) h (sml_of _)) (sml_of _)
theorem sml_sgn {l h : Nat} (hh : h < 4294967296) {x : Str} (s : sgn l h x = true) : Sml x := fun c hc => by
  have := List.all_eq_true.mp s c hc
  have h2 := of_decide_eq_true (Bool.and_eq_true_iff.mp this).2
  omega
theorem sml_text {x : Str} (s : textD (.str x) = true) : Sml x := fun c hc => by
  have := List.all_eq_true.mp s c hc
  rcases Bool.or_eq_true_iff.mp this with h | h
  · have h2 := of_decide_eq_true (Bool.and_eq_true_iff.mp h).2
    omega
  · have h2 := of_decide_eq_true h
    omega
theorem mem_glue {z : List Nat} {c : Nat} : ∀ {r : List Str}, c ∈ StrLaws.glueL z r → c ∈ z ∨ ∃ p ∈ r, c ∈ p.cps.toList
  | [], h => by
    unfold StrLaws.glueL at h
    cases h
  | p :: r, h => by
    unfold StrLaws.glueL at h
    rcases List.mem_append.mp h with h | h
    · exact .inl h
    · rcases List.mem_append.mp h with h | h
      · exact .inr ⟨p, List.mem_cons_self, h⟩
      · exact (mem_glue h).imp id fun ⟨q, h1, h2⟩ => ⟨q, List.mem_cons_of_mem _ h1, h2⟩
theorem sml_join {a : Str} {ys : List Str} (h : Sml a) (k : ∀ y ∈ ys, Sml y) : Sml (Txt.join a ys) := fun c hc => by
  cases ys with
  | nil =>
    have e : (Txt.join a []).cps.toList = [] := rfl
    rw [e] at hc
    cases hc
  | cons p r =>
    have e : (Txt.join a (p :: r)).cps.toList = StrLaws.glueT a.cps.toList (p :: r) := StrLaws.glued_list a p r
    rw [e] at hc
    unfold StrLaws.glueT at hc
    rcases List.mem_append.mp hc with hc | hc
    · exact k p List.mem_cons_self c hc
    · rcases mem_glue hc with hc | ⟨q, h1, h2⟩
      · exact h c hc
      · exact k q (List.mem_cons_of_mem _ h1) c h2
/-- a worth, or a rule's text -/
def Leaf (d : PyData) : Prop := okD d = true ∧ ((∃ i, d = .int i) ∨ ∃ x, d = .str x ∧ Sml x)
theorem leaf_len {d : PyData} (h : Leaf d) : (wtext d).length ≤ 36010 := by
  obtain ⟨o, h⟩ := h
  rcases h with ⟨i, rfl⟩ | ⟨x, rfl, _⟩
  · have h1 := int_text_length_le (a := i) (k := 200) (by decide) (PySem.Flt.log2_lt_of (by decide) (ok_int o))
    show (Str.ofString (toString i)).length ≤ 36010
    rw [PySem.ofString_length]
    omega
  · have h1 := rep_len (ok_str o)
    show ((("'" : Str) ++ repS x) ++ ("'" : Str)).length ≤ 36010
    rw [len_app, len_app, show (("'" : Str)).length = 1 from by decide]
    omega
theorem leaf_sml {d : PyData} (h : Leaf d) : Sml (wtext d) := by
  obtain ⟨o, h⟩ := h
  rcases h with ⟨i, rfl⟩ | ⟨x, rfl, s⟩
  · exact sml_of _
  · exact sml_app (sml_app (sml_of _) (sml_repS s)) (sml_of _)
theorem worth_leaf {d : PyData} (o : okD d = true) (h : worthD d = true) : Leaf d := by
  refine ⟨o, ?_⟩
  rcases Bool.or_eq_true_iff.mp h with h | h
  · exact .inl (intD_of h)
  · cases d with
    | str x => exact .inr ⟨x, rfl, sml_sgn (by decide) (Bool.and_eq_true_iff.mp (show (decide (x.length ≤ 20) && sgn 32 126 x) = true from h)).2⟩
    | _ => cases h
theorem name_sml {x : Str} (h : nameD (.str x) = true) : Sml x ∧ x.length ≤ 8 := by
  obtain ⟨h1, h2⟩ := Bool.and_eq_true_iff.mp (show ((decide (1 ≤ x.length) && decide (x.length ≤ 8)) && sgn 97 122 x) = true from h)
  exact ⟨sml_sgn (by decide) h2, of_decide_eq_true (Bool.and_eq_true_iff.mp h1).2⟩
theorem fact_parts {d : PyData} (o : okD d = true) (h : factD d = true) : ∃ n ws, d = .tuple [.str n, .tuple ws] ∧ n.length ≤ 8 ∧ Sml n ∧ ws.length ≤ 5 ∧ ∀ x ∈ ws, Leaf x := by
  cases hd : tupOfD 2 2 d with
  | false =>
    rw [(no2 hd).1] at h
    cases h
  | true =>
    obtain ⟨n, r, rfl⟩ := tup2 hd
    obtain ⟨on, or_⟩ := ok_two o
    obtain ⟨h1, h2⟩ := Bool.and_eq_true_iff.mp (show (nameD n && (if isR n = true then ruleD r else rowD r)) = true from h)
    obtain ⟨x, rfl⟩ : ∃ x, n = .str x := by
      cases n with
      | str x => exact ⟨x, rfl⟩
      | _ => cases h1
    obtain ⟨s1, s2⟩ := name_sml h1
    cases hr : isR (.str x) with
    | true =>
      rw [hr, if_pos rfl] at h2
      cases hq : tupOfD 2 2 r with
      | false =>
        rw [(no2 hq).2] at h2
        cases h2
      | true =>
        obtain ⟨t, y, rfl⟩ := tup2 hq
        obtain ⟨ot, oy⟩ := ok_two or_
        rw [rule2] at h2
        obtain ⟨h3, h4⟩ := Bool.and_eq_true_iff.mp h2
        obtain ⟨u, rfl⟩ : ∃ x, t = .str x := by
          cases t with
          | str x => exact ⟨x, rfl⟩
          | _ => cases h3
        obtain ⟨v, rfl⟩ : ∃ x, y = .str x := by
          cases y with
          | str x => exact ⟨x, rfl⟩
          | _ => cases h4
        refine ⟨x, _, rfl, s2, s1, (by show 2 ≤ 5; decide), fun z hz => ?_⟩
        rcases List.mem_cons.mp hz with rfl | hz
        · exact ⟨ot, .inr ⟨_, rfl, (name_sml h3).1⟩⟩
        · rw [List.mem_singleton.mp hz]
          exact ⟨oy, .inr ⟨_, rfl, sml_text h4⟩⟩
    | false =>
      rw [hr, if_neg Bool.false_ne_true] at h2
      cases r with
      | tuple ws =>
        obtain ⟨_, oa⟩ := ok_tup or_
        obtain ⟨h3, h4⟩ := Bool.and_eq_true_iff.mp (show ((decide ((1 : Int) ≤ (ws.length : Int)) && decide ((ws.length : Int) ≤ 5)) && ws.all worthD) = true from h2)
        have h5 := of_decide_eq_true (Bool.and_eq_true_iff.mp h3).2
        exact ⟨x, ws, rfl, s2, s1, by omega, fun z hz => worth_leaf (okAll_mem oa hz) (List.all_eq_true.mp h4 z hz)⟩
      | _ => cases h2
theorem join_len {ws : List PyData} (h : ws.length ≤ 5) (k : ∀ x ∈ ws, Leaf x) : ((ws.map wtext).map (·.length)).sum + (ws.map wtext).length * (("," : Str)).length ≤ 200000 := by
  have h1 := sumLen_le_of_bound wtext 36010 ws fun a ha => leaf_len (k a ha)
  rw [List.length_map, show (("," : Str)).length = 1 from by decide]
  have : 36010 * ws.length ≤ 36010 * 5 := Nat.mul_le_mul_left _ h
  omega
theorem joinT_len {ws : List PyData} (h : ws.length ≤ 5) (k : ∀ x ∈ ws, Leaf x) : (joinT ws).length ≤ 200000 := by
  unfold joinT
  rw [TL.join_eq]
  exact Nat.le_trans (StrLaws.join_length_le _ _) (join_len h k)
theorem ftext_sml {d : PyData} (o : okD d = true) (h : factD d = true) : Sml (ftext d) := by
  obtain ⟨n, ws, rfl, _, h1, _, h2⟩ := fact_parts o h
  exact sml_app (sml_app (sml_app h1 (sml_of _)) (sml_join (sml_of _) fun y hy => by
    obtain ⟨x, hx, rfl⟩ := List.mem_map.mp hy
    exact leaf_sml (h2 x hx))) (sml_of _)
/-! ### mixing -/
def numS (c : Nat) : Int := if c = 10 then 0 else (c : Int) - 31
def mixS (p m : Int) (c : Nat) : Int := (m * m + 3 * m * numS c + numS c + 5) % p
def mixF (p : Int) (x : Str) : Int := x.cps.toList.foldl (mixS p) 1
theorem for_str {x : Str} {g : TG} {tb : TS} {D : Ends} {σ : L2.St} {H : Hp} (Pv : Nat → L2.St → Hp → Prop) (h0 : Pv 0 σ H)
    (hs : ∀ i c σ H, x.cps.toList[i]? = some c → Pv i σ H → g (.str ⟨#[c]⟩) σ H fun σ2 H2 => tb { D with nx := Pv (i + 1), ct := Pv (i + 1), bk := D.nx } σ2 H2) (hd : ∀ σ H, Pv x.cps.toList.length σ H → D.nx σ H) :
    ∃ W : Nat → Nat → L2.St → Hp → Prop, (∃ m, W 0 m σ H) ∧ ∀ i m σ H, W i m σ H →
      ((Its x).stop i H ∧ D.nx σ H) ∨ ((Its x).go i H ∧ ∃ N : L2.St → Hp → Prop, (∀ σ' H', N σ' H' → ∃ m', m' < m ∧ W (i + 1) m' σ' H') ∧ ∀ v H', (Its x).yld i H v H' → g v σ H' fun σ2 H2 => tb { D with nx := N, ct := N, bk := D.nx } σ2 H2) := by
  have sz : x.cps.toList.length = x.cps.size := Array.length_toList
  refine ⟨fun i m σ H => m = x.cps.size - i ∧ i ≤ x.cps.size ∧ Pv i σ H, ⟨x.cps.size, by simp, Nat.zero_le _, h0⟩, ?_⟩
  rintro i m σ H ⟨rfl, hi, p⟩
  by_cases hlt : i < x.cps.size
  · refine .inr ⟨hlt, Pv (i + 1), fun σ' H' p' => ⟨x.cps.size - (i + 1), by omega, rfl, hlt, p'⟩, fun v H' y => ?_⟩
    obtain ⟨rfl, c, hc, rfl⟩ := y
    exact hs i c σ _ (by rw [Array.getElem?_toList]; exact hc) p
  · have e : i = x.cps.size := by omega
    exact .inl ⟨by show x.cps.size ≤ i; omega, hd σ H (by rw [sz, ← e]; exact p)⟩
theorem sq_ok {m : Int} (h0 : 0 ≤ m) (h1 : m ≤ 170141183460469231731687303715884105728) : CMulW m m := wide_mul (a := 130) (b := 130) (by omega) (by omega) (by decide) (by decide) (by decide)
theorem num_ok {c : Nat} (h : c < 4294967296) : -(2 ^ 64) < numS c ∧ numS c < 2 ^ 64 := by
  unfold numS
  split <;> omega
section
variable {P : Program} {w : World} {K : PySem.W.Frag} {mg : Str → Option Value} {base : Heap}
def spMix : Sp := fun vs H Q _ => ∃ (p : Int) (x : Str), vs = [.int p, .str x] ∧ 0 < p ∧ p ≤ 170141183460469231731687303715884105728 ∧ Sml x ∧ Q (.int (mixF p x)) H
theorem spMix_len {x y : Str} : ∀ vs H Q E, spMix vs H Q E → vs.length = [x, y].length := fun vs H Q E h => by
  obtain ⟨v, d, rfl, _⟩ := h
  rfl
theorem fold_take {p : Int} {x : Str} {i c : Nat} (h : x.cps.toList[i]? = some c) : (x.cps.toList.take (i + 1)).foldl (mixS p) 1 = mixS p ((x.cps.toList.take i).foldl (mixS p) 1) c := by
  rw [List.take_add_one, h, List.foldl_append]
  rfl
theorem scMixed : FnScope ["p", "text", "told", "sign", "number"] ["p", "text"] (defScope sMixed) := ⟨rfl, rfl, rfl, by decide +kernel, rfl, by decide +kernel, by decide +kernel⟩
theorem ok_mixed {f : Addr} {fd : FuncData} (F : FnP K "mixed" sMixed f fd) (M : Nm mg) : FnOk P w K mg base CX0 1 f fd ["p", "text"] spMix := by
  obtain ⟨tb, hb⟩ := M.BEFORE_BLANK_
  refine F.ok scMixed spMix_len (fun cdv A outer s H vs Q E hr h => ?_)
  obtain ⟨p, x, rfl, p0, p1, sm, q⟩ := h
  refine ⟨_, PSs.nox (pss_cons (ps_set (i := 2) scMixed.nd rfl (Or.inl rfl) pe_int)
      (pss_cons (ps_for PassesOwn.never rfl (pi_str (pv 1)) (pg_name (i := 3) scMixed.nd rfl (Or.inl rfl)) (pss_cons (ps_set (i := 4) scMixed.nd rfl (Or.inl rfl) (pe_ifExp (pt_cmpR op_eq (pv 3) pe_str (nomark _)) pe_int (pe_op op_sub (pe_callB call_ord (by rfl) M.ord (by decide +kernel) (pa_cons (pv 3) pa_nil)) (pe_glob (v := .int 31) (by rfl) hb ⟨tb, rfl⟩))))
      (pss_one (ps_set (i := 2) scMixed.nd rfl (Or.inl rfl) (pe_op op_mod (pe_op op_add (pe_op op_add (pe_op op_add (pe_op op_mulW (pv 2) (pv 2)) (pe_op op_mul (pe_op op_mul pe_int (pv 2)) (pv 4))) (pv 4)) pe_int) (pv 0))))))
      (pss_one (ps_ret (pv 2))))), ?_⟩
  refine ⟨_, rfl, x, rfl, ?_⟩
  refine for_str (fun i σ H' => H' = H ∧ ∃ m a b, σ = [some (.int p), some (.str x), some (.int m), a, b] ∧ m = (x.cps.toList.take i).foldl (mixS p) 1 ∧ 0 ≤ m ∧ m ≤ 170141183460469231731687303715884105728) ⟨rfl, 1, none, none, rfl, by rw [List.take_zero]; rfl, by decide, by decide⟩ (fun i c σ H' hx z => ?_) (fun σ H' z => ?_)
  · obtain ⟨rfl, m, a, b, rfl, em, m0, m1⟩ := z
    have hc := sm c (List.mem_of_getElem? hx)
    have key : ∀ n : Int, n = numS c → (∃ m' a b, [some (.int p), some (.str x), some (.int ((m * m + 3 * m * n + n + 5) % p)), some (.str ⟨#[c]⟩), some (.int n)] = [some (.int p), some (.str x), some (V.int m'), a, b] ∧ m' = (x.cps.toList.take (i + 1)).foldl (mixS p) 1 ∧ 0 ≤ m' ∧ m' ≤ 170141183460469231731687303715884105728) := fun n en => by
      refine ⟨_, _, _, rfl, ?_, Int.emod_nonneg _ (by omega), ?_⟩
      · rw [fold_take hx, ← em, en]
        rfl
      · have := Int.emod_lt_of_pos (m * m + 3 * m * n + n + 5) p0
        omega
    refine ⟨_, rfl, rfl, _, rfl, tst (fun e => ?_) fun e => ?_⟩
    · have en : (0 : Int) = numS c := by
        rw [nl_eq] at e
        unfold numS
        rw [if_pos (of_decide_eq_true e)]
      exact ⟨_, rfl, _, rfl, _, _, rfl, rfl, sq_ok m0 m1, _, rfl, _, _, rfl, rfl, .inl ⟨by decide, by decide⟩, _, rfl, _, _, rfl, rfl, .inr ⟨by decide, by decide⟩, _, _, rfl, rfl, _, rfl, _, _, rfl, rfl, _, _, rfl, rfl, _, rfl, _, _, rfl, rfl, p0, rfl, key 0 en⟩
    · have en : (c : Int) - 31 = numS c := by
        rw [nl_eq] at e
        unfold numS
        rw [if_neg (of_decide_eq_false e)]
      have hn : -(2 ^ 64) < (c : Int) - 31 ∧ (c : Int) - 31 < 2 ^ 64 := by rw [en]; exact num_ok hc
      exact ⟨_, rfl, ⟨#[c]⟩, rfl, rfl, _, _, rfl, rfl, _, rfl, _, rfl, _, _, rfl, rfl, sq_ok m0 m1, _, rfl, _, _, rfl, rfl, .inl ⟨by decide, by decide⟩, _, rfl, _, _, rfl, rfl, .inr hn, _, _, rfl, rfl, _, rfl, _, _, rfl, rfl, _, _, rfl, rfl, _, rfl, _, _, rfl, rfl, p0, rfl, key _ en⟩
  · obtain ⟨rfl, m, a, b, rfl, em, m0, m1⟩ := z
    refine ⟨_, rfl, ?_⟩
    rw [List.take_of_length_le (Nat.le_refl _)] at em
    rw [em]
    exact q
theorem scLMix : FnScope ["p", "text", "found", "sign", "number"] ["p", "text"] (defScope sLMix) := ⟨rfl, rfl, rfl, by decide +kernel, rfl, by decide +kernel, by decide +kernel⟩
theorem ok_lmix {f : Addr} {fd : FuncData} (F : FnP K "_law_mix" sLMix f fd) (M : Nm mg) : FnOk P w K mg base CX0 1 f fd ["p", "text"] spMix := by
  refine F.ok scLMix spMix_len (fun cdv A outer s H vs Q E hr h => ?_)
  obtain ⟨p, x, rfl, p0, p1, sm, q⟩ := h
  refine ⟨_, PSs.nox (pss_cons (ps_set (i := 2) scLMix.nd rfl (Or.inl rfl) pe_int)
      (pss_cons (ps_for PassesOwn.never rfl (pi_str (pv 1)) (pg_name (i := 3) scLMix.nd rfl (Or.inl rfl)) (pss_cons (ps_set (i := 4) scLMix.nd rfl (Or.inl rfl) (pe_ifExp (pt_cmpR op_eq (pv 3) pe_str (nomark _)) pe_int (pe_op op_sub (pe_callB call_ord (by rfl) M.ord (by decide +kernel) (pa_cons (pv 3) pa_nil)) pe_int)))
      (pss_one (ps_set (i := 2) scLMix.nd rfl (Or.inl rfl) (pe_op op_mod (pe_callTy call_int1 (by rfl) M.int (by decide +kernel) (pa_cons (pe_op op_add (pe_op op_add (pe_op op_add (pe_op op_mulW (pv 2) (pv 2)) (pe_op op_mul (pe_op op_mul pe_int (pv 2)) (pv 4))) (pv 4)) pe_int) pa_nil)) (pv 0))))))
      (pss_one (ps_ret (pv 2))))), ?_⟩
  refine ⟨_, rfl, x, rfl, ?_⟩
  refine for_str (fun i σ H' => H' = H ∧ ∃ m a b, σ = [some (.int p), some (.str x), some (.int m), a, b] ∧ m = (x.cps.toList.take i).foldl (mixS p) 1 ∧ 0 ≤ m ∧ m ≤ 170141183460469231731687303715884105728) ⟨rfl, 1, none, none, rfl, by rw [List.take_zero]; rfl, by decide, by decide⟩ (fun i c σ H' hx z => ?_) (fun σ H' z => ?_)
  · obtain ⟨rfl, m, a, b, rfl, em, m0, m1⟩ := z
    have hc := sm c (List.mem_of_getElem? hx)
    have key : ∀ n : Int, n = numS c → (∃ m' a b, [some (.int p), some (.str x), some (.int ((m * m + 3 * m * n + n + 5) % p)), some (.str ⟨#[c]⟩), some (.int n)] = [some (.int p), some (.str x), some (V.int m'), a, b] ∧ m' = (x.cps.toList.take (i + 1)).foldl (mixS p) 1 ∧ 0 ≤ m' ∧ m' ≤ 170141183460469231731687303715884105728) := fun n en => by
      refine ⟨_, _, _, rfl, ?_, Int.emod_nonneg _ (by omega), ?_⟩
      · rw [fold_take hx, ← em, en]
        rfl
      · have := Int.emod_lt_of_pos (m * m + 3 * m * n + n + 5) p0
        omega
    refine ⟨_, rfl, rfl, _, rfl, tst (fun e => ?_) fun e => ?_⟩
    · have en : (0 : Int) = numS c := by
        rw [nl_eq] at e
        unfold numS
        rw [if_pos (of_decide_eq_true e)]
      exact ⟨_, rfl, _, rfl, _, _, rfl, rfl, sq_ok m0 m1, _, rfl, _, _, rfl, rfl, .inl ⟨by decide, by decide⟩, _, rfl, _, _, rfl, rfl, .inr ⟨by decide, by decide⟩, _, _, rfl, rfl, _, rfl, _, _, rfl, rfl, _, _, rfl, rfl, .inl ⟨_, rfl, _, rfl, _, _, rfl, rfl, p0, rfl, key 0 en⟩⟩
    · have en : (c : Int) - 31 = numS c := by
        rw [nl_eq] at e
        unfold numS
        rw [if_neg (of_decide_eq_false e)]
      have hn : -(2 ^ 64) < (c : Int) - 31 ∧ (c : Int) - 31 < 2 ^ 64 := by rw [en]; exact num_ok hc
      exact ⟨_, rfl, ⟨#[c]⟩, rfl, rfl, _, _, rfl, rfl, _, rfl, _, rfl, _, _, rfl, rfl, sq_ok m0 m1, _, rfl, _, _, rfl, rfl, .inl ⟨by decide, by decide⟩, _, rfl, _, _, rfl, rfl, .inr hn, _, _, rfl, rfl, _, rfl, _, _, rfl, rfl, _, _, rfl, rfl, .inl ⟨_, rfl, _, rfl, _, _, rfl, rfl, p0, rfl, key _ en⟩⟩
  · obtain ⟨rfl, m, a, b, rfl, em, m0, m1⟩ := z
    refine ⟨_, rfl, ?_⟩
    rw [List.take_of_length_le (Nat.le_refl _)] at em
    rw [em]
    exact q
end
end Sm
namespace Sm
open PySem PySem.Spec PyProof.Rows L2 Vd CwR
section
variable {X : Cx}
/-- name = value, where a token is out -/
theorem pst_set {i : Nat} {x : Str} {e : Expr} {te : TE} {pos pos' : Pos} (hN : X.N.Nodup) (hi : X.N[i]? = some x) (hx : Loc X.env.scope x) (he : PET X e te) (hs : swapsWith e (some (.Name x pos')) pos.line X.env = pure false := by rfl) (hf : X.fn x = true ∨ X.env.scope.names.lookup x = some .local := by first | exact .inl rfl | exact .inr rfl | assumption) :
    PST X (.Assign [.Name x pos'] e pos) (tAsg te (gName i)) := fun pins s σ H D h0 I h =>
  wpAny_Assign_Name (thn (he pins s σ H _ h0 I h) fun v s1 ⟨y, H1, I1, r1, q1⟩ => store_ok I1 hN hi hx r1 (fun s2 I2 => ⟨_, H1, I2, q1⟩) hf) hs
end
/-- a list of worths' texts -/
theorem map_tup {K : PySem.W.Frag} {a : Addr} {xs : List V} {ds : List PyData} {p : PyData → V} {j : Nat} {te : TE} {σ : L2.St} {H : Hp} {Q : VK} {tp : TE} (htp : ∀ Q' : VK, Q' (.ref a) H → tp σ H Q') (h1 : SqT K H a xs) (hd : DdAll K H xs ds) (hz : ds.length ≤ 4000) (hw : ∀ v, wipe ((wipe σ [j]).set j v) [j] = wipe σ [j])
    (hte : ∀ (v : V) (d : PyData) (H' : Hp) (Q : VK), d ∈ ds → Same H H' → Dd K H' v d → (∀ H'', Same H' H'' → Q (p d) H'') → te ((wipe σ [j]).set j (some v)) H' Q) (q : ∀ D H', Same H H' → H' D = some (.lst (ds.map p)) → Q (.ref D) H') : tLc (iTup K tp) (gName j) tYes te [j] σ H Q := by
  have hx0 : xs.length = ds.length := dall_len hd
  refine htp _ ⟨a, rfl, ⟨_, h1⟩, fun D hD => ?_⟩
  refine lc_tup (xs := xs) (fun i H' => Same H H' ∧ H' D = some (.lst ((ds.take i).map p))) ⟨same_up hD, upd_same⟩ (fun i H' _ e => SqT.same e.1 h1) (fun i x H' hx e => ?_) (fun H1 e => ?_)
  · obtain ⟨d, he, hdd⟩ := dall_at' hd hx
    have il : i < ds.length := (List.getElem?_eq_some_iff.mp he).1
    refine ⟨hw _, ?_⟩
    refine hte x d H' _ (List.mem_of_getElem? he) e.1 (Dd.same e.1 hdd) fun H2 s2 => ⟨_, s2 _ _ e.2, ?_, ?_, ?_⟩
    · rw [List.length_map, List.length_take, sizeLine_eq]
      omega
    · intro c' o z
      rw [upd_ne (ne_of_none z hD)]
      exact s2 _ _ (e.1 c' o z)
    · rw [upd_same, List.take_add_one, he, List.map_append]
      rfl
  · refine q D H1 e.1 ?_
    rw [e.2, hx0, List.take_of_length_le (Nat.le_refl _)]
section
variable {P : Program} {w : World} {K : PySem.W.Frag} {mg : Str → Option Value} {base : Heap}
def spWorthText (K : PySem.W.Frag) : Sp := fun vs H Q _ => ∃ (v : V) (d : PyData), vs = [v] ∧ Dd K H v d ∧ Leaf d ∧ Q (.str (wtext d)) H
theorem spWorthText_len {x : Str} : ∀ vs H Q E, spWorthText K vs H Q E → vs.length = [x].length := fun vs H Q E h => by
  obtain ⟨v, d, rfl, _⟩ := h
  rfl
theorem rep_fit {x : Str} (h : x.length ≤ 4000) : x.length + (x.length + 1) * (("~~" : Str)).length ≤ 16777216 := by
  rw [show (("~~" : Str)).length = 2 from by decide]
  omega
theorem rep_fit2 {x : Str} (h : x.length ≤ 4000) : (Txt.replace x ("~" : Str) ("~~" : Str)).length + ((Txt.replace x ("~" : Str) ("~~" : Str)).length + 1) * (("~'" : Str)).length ≤ 16777216 := by
  have := rep_lenA h
  rw [show (("~'" : Str)).length = 2 from by decide]
  omega
theorem rep_out {x : Str} (h : x.length ≤ 4000) : (("'" : Str) ++ repS x).length ≤ sizeLine ∧ ((("'" : Str) ++ repS x) ++ ("'" : Str)).length ≤ sizeLine := by
  have := rep_len h
  simp only [len_app, show (("'" : Str)).length = 1 from by decide, sizeLine_eq]
  omega
theorem scWorthText : FnScope ["worth", "escaped"] ["worth"] (defScope sWorthText) := ⟨rfl, rfl, rfl, by decide +kernel, rfl, by decide +kernel, by decide +kernel⟩
theorem ok_worthText {f : Addr} {fd : FuncData} (F : FnP K "worth_text" sWorthText f fd) (M : Nm mg) : FnOk P w K mg base CX0 1 f fd ["worth"] (spWorthText K) := by
  obtain ⟨oc, od, dV, kV, doc, pm, an, cdv, ct, osl, rfl, lk, hcd, _, _⟩ := F.ex
  refine fn_ofT lk hcd scWorthText (by decide +kernel) (by decide) spWorthText_len (fun A outer s H vs Q E hr h => ?_)
  obtain ⟨v, d, rfl, hd, lf, q⟩ := h
  refine ⟨_, psst_cons (pst_if (pt_val (pe_callB (id := "isinstance") (r := rIsi K) call_isi (by rfl) M.isinstance (by decide +kernel) (pa_cons (pv 0) (pa_cons (ty_cls (n := "str") M.str (by rfl) (by decide +kernel)) pa_nil)))) (psst_cons (pst_set (i := 1) scWorthText.nd rfl (Or.inl rfl) (pet_replT (pet_replC (pv 0)))) (psst_one (PST.of (ps_ret (pe_joined (PJ.cons pe_str (PJ.cons (pe_fmt (pv 1)) (PJ.cons pe_str PJ.nil)))))))) psst_nil) (psst_one (PST.of (ps_ret (pe_callTy call_str_int (by rfl) M.str (by decide +kernel) (pa_cons (pv 0) pa_nil))))), ?_⟩
  obtain ⟨o, lf2⟩ := lf
  rcases lf2 with ⟨i, rfl⟩ | ⟨x, rfl, _⟩
  · cases dd_int hd
    exact ⟨_, rfl, _, _, _, _, _, rfl, .ty _, tyx hd, kit_ty (kS (.int i)), _, rfl, iteF ⟨_, rfl, i, rfl, Nat.lt_of_lt_of_le (PySem.Flt.log2_lt_of (by decide) (ok_int o)) (by decide), q⟩⟩
  · cases dd_str hd
    have hz := ok_str o
    obtain ⟨z1, z2⟩ := rep_out hz
    refine ⟨_, rfl, _, _, _, _, _, rfl, .ty _, tyx hd, kit_ty (kS (.str x)), _, rfl, iteT ⟨_, rfl, _, rfl, rep_fit hz, _, rfl, rep_fit2 hz, ?_⟩⟩
    refine ⟨_, rfl, by decide, _, rfl, .inl ⟨_, rfl, Nat.le_trans (rep_len hz) (by rw [sizeLine_eq]; decide), _, rfl, ?_, _, rfl, ?_, ?_⟩⟩
    · rw [emp_app]
      exact z1
    · rw [emp_app]
      exact z2
    · rw [emp_app]
      exact q
theorem scLWorthText : FnScope ["worth"] ["worth"] (defScope sLWorthText) := ⟨rfl, rfl, rfl, by decide +kernel, rfl, by decide +kernel, by decide +kernel⟩
theorem ok_lworthText {f : Addr} {fd : FuncData} (F : FnP K "_law_worth_text" sLWorthText f fd) (M : Nm mg) : FnOk P w K mg base CX0 1 f fd ["worth"] (spWorthText K) := by
  obtain ⟨oc, od, dV, kV, doc, pm, an, cdv, ct, osl, rfl, lk, hcd, _, _⟩ := F.ex
  refine fn_ofT lk hcd scLWorthText (by decide +kernel) (by decide) spWorthText_len (fun A outer s H vs Q E hr h => ?_)
  obtain ⟨v, d, rfl, hd, lf, q⟩ := h
  refine ⟨_, psst_cons (pst_if (pt_val (pe_callB (id := "isinstance") (r := rIsi K) call_isi (by rfl) M.isinstance (by decide +kernel) (pa_cons (pv 0) (pa_cons (ty_cls (n := "str") M.str (by rfl) (by decide +kernel)) pa_nil)))) (psst_one (pst_ret (pet_op op_add_str (pet_op op_add_str (PET.of pe_str) (pet_replT (pet_replC (pv 0)))) (PET.of pe_str)))) psst_nil) (psst_one (PST.of (ps_ret (pe_callTy call_str_int (by rfl) M.str (by decide +kernel) (pa_cons (pv 0) pa_nil))))), ?_⟩
  obtain ⟨o, lf2⟩ := lf
  rcases lf2 with ⟨i, rfl⟩ | ⟨x, rfl, _⟩
  · cases dd_int hd
    exact ⟨_, rfl, _, _, _, _, _, rfl, .ty _, tyx hd, kit_ty (kS (.int i)), _, rfl, iteF ⟨_, rfl, i, rfl, Nat.lt_of_lt_of_le (PySem.Flt.log2_lt_of (by decide) (ok_int o)) (by decide), q⟩⟩
  · cases dd_str hd
    have hz := ok_str o
    obtain ⟨z1, z2⟩ := rep_out hz
    rw [len_app] at z1
    rw [len_app] at z2
    exact ⟨_, rfl, _, _, _, _, _, rfl, .ty _, tyx hd, kit_ty (kS (.str x)), _, rfl, iteT ⟨_, rfl, _, rfl, rep_fit hz, _, rfl, rep_fit2 hz, _, _, rfl, rfl, z1, _, _, rfl, rfl, z2, q⟩⟩
/-! ### texts of facts -/
def spText (K : PySem.W.Frag) : Sp := fun vs H Q _ => ∃ (v : V) (d : PyData), vs = [v] ∧ Dd K H v d ∧ okD d = true ∧ factD d = true ∧ ∀ H', Same H H' → Q (.str (ftext d)) H'
theorem spText_len {x : Str} : ∀ vs H Q E, spText K vs H Q E → vs.length = [x].length := fun vs H Q E h => by
  obtain ⟨v, d, rfl, _⟩ := h
  rfl
theorem dd_fact {H : Hp} {v : V} {n : Str} {ws : List PyData} (h : Dd K H v (.tuple [.str n, .tuple ws])) : ∃ p p2 xs, v = .ref p ∧ TupN H p [.str n, .ref p2] ∧ TupN H p2 xs ∧ DdAll K H xs ws := by
  obtain ⟨p, u1, u2, rfl, h0, g1, g2⟩ := dd_two h
  cases dd_str g1
  cases g2 with
  | tup h1 h2 => exact ⟨p, _, _, rfl, h0, h1, h2⟩
theorem scTextOf : FnScope ["fact", "name", "row", "inner", "worth"] ["fact"] (defScope sTextOf) := ⟨rfl, rfl, rfl, by decide +kernel, rfl, by decide +kernel, by decide +kernel⟩
theorem out_len {n : Str} {ws : List PyData} (h8 : n.length ≤ 8) (h5 : ws.length ≤ 5) (k : ∀ x ∈ ws, Leaf x) : (n ++ ("(" : Str)).length ≤ sizeLine ∧ ((n ++ ("(" : Str)) ++ joinT ws).length ≤ sizeLine ∧ (((n ++ ("(" : Str)) ++ joinT ws) ++ (")" : Str)).length ≤ sizeLine := by
  have h1 := joinT_len h5 k
  simp only [len_app, show (("(" : Str)).length = 1 from by decide, show ((")" : Str)).length = 1 from by decide, sizeLine_eq]
  omega
theorem ok_textOf {f : Addr} {fd : FuncData} (F : FnP K "text_of" sTextOf f fd) (M : Nm mg) (DW : Df P w K mg base "worth_text" 1 ["worth"] (spWorthText K)) : FnOk P w K mg base CX0 2 f fd ["fact"] (spText K) := by
  refine F.ok scTextOf spText_len (fun cdv A outer s H vs Q E hr h => ?_)
  obtain ⟨v, d, rfl, hd, ok, hf, q⟩ := h
  obtain ⟨n, ws, rfl, h8, _, h5, lf⟩ := fact_parts ok hf
  obtain ⟨p, p2, xs, rfl, h0, h1, h2⟩ := dd_fact hd
  refine ⟨_, PSs.nox (pss_cons (ps_asg (pv 0) (pg_tup rfl (pgs_cons (pg_name (i := 1) scTextOf.nd rfl (Or.inl rfl)) (pgs_cons (pg_name (i := 2) scTextOf.nd rfl (Or.inl rfl)) pgs_nil))))
      (pss_cons (ps_set (i := 3) scTextOf.nd rfl (Or.inl rfl) (pe_join pe_str (pe_lc (own := [("worth", 4)]) (g := gName 4) (tt := tYes) (by rfl) scTextOf.nd (pi_tup (pv 2)) (blkOk_by (N := ["fact", "name", "row", "inner", "worth"]) (sc := defScope sTextOf) (by decide +kernel)) (fun _ _ _ _ _ => pg_name (i := 4) scTextOf.nd rfl (Or.inl rfl)) (fun _ _ _ _ _ => pts_nil) (fun _ _ _ _ _ => (pe_df DW hr (by decide) (pa_cons (pv 4) pa_nil))))))
      (pss_one (ps_ret (pe_joined (PJ.cons (pe_fmt (pv 1)) (PJ.cons pe_str (PJ.cons (pe_fmt (pv 3)) (PJ.cons pe_str PJ.nil))))))))), ?_⟩
  refine ⟨_, rfl, p, _, rfl, h0.sq, rfl, _, _, rfl, _, _, rfl, rfl, ?_⟩
  refine ⟨⟨_, rfl⟩, ?_⟩
  refine map_tup (p := fun d => V.str (wtext d)) (j := 4) (fun Q' z => ⟨_, rfl, z⟩) (h1.sq (K := K)) h2 (by omega) (fun _ => rfl) (fun v d H' Q m s hd z => ⟨_, rfl, v, d, rfl, hd, lf d m, z H' (Same.refl _)⟩) fun D H' s hD => ?_
  refine ⟨_, D, ws.map wtext, rfl, rfl, .inl (SqL.of (by rw [hD, List.map_map]; rfl)), Nat.le_trans (join_len h5 lf) (by decide), ?_⟩
  obtain ⟨z1, z2, z3⟩ := out_len h8 h5 lf
  have hz := joinT_len h5 lf
  refine ⟨_, rfl, .inl ⟨n, rfl, by rw [sizeLine_eq]; omega, n, rfl, by rw [emp_app, sizeLine_eq]; omega, _, rfl, by rw [emp_app]; exact z1, _, rfl, .inl ⟨_, rfl, Nat.le_trans hz (by rw [sizeLine_eq]; decide), _, rfl, by rw [emp_app]; exact z2, _, rfl, by rw [emp_app]; exact z3, ?_⟩⟩⟩
  rw [emp_app]
  exact q H' s
theorem scLFactText : FnScope ["fact", "worth"] ["fact"] (defScope sLFactText) := ⟨rfl, rfl, rfl, by decide +kernel, rfl, by decide +kernel, by decide +kernel⟩
theorem ok_lfactText {f : Addr} {fd : FuncData} (F : FnP K "_law_fact_text" sLFactText f fd) (M : Nm mg) (DW : Df P w K mg base "_law_worth_text" 1 ["worth"] (spWorthText K)) : FnOk P w K mg base CX0 2 f fd ["fact"] (spText K) := by
  refine F.ok scLFactText spText_len (fun cdv A outer s H vs Q E hr h => ?_)
  obtain ⟨v, d, rfl, hd, ok, hf, q⟩ := h
  obtain ⟨n, ws, rfl, h8, _, h5, lf⟩ := fact_parts ok hf
  obtain ⟨p, p2, xs, rfl, h0, h1, h2⟩ := dd_fact hd
  refine ⟨_, PSs.nox (pss_one (ps_ret (pe_op op_add_str (pe_op op_add_str (pe_op op_add_str (pe_ix ix_tup (pv 0) pe_int (fun _ _ => rfl)) pe_str) (pe_join pe_str (pe_lc (own := [("worth", 1)]) (g := gName 1) (tt := tYes) (by rfl) scLFactText.nd (pi_tup (pe_ix ix_tup (pv 0) pe_int (fun _ _ => rfl))) (blkOk_by (N := ["fact", "worth"]) (sc := defScope sLFactText) (by decide +kernel)) (fun _ _ _ _ _ => pg_name (i := 1) scLFactText.nd rfl (Or.inl rfl)) (fun _ _ _ _ _ => pts_nil) (fun _ _ _ _ _ => (pe_df DW hr (by decide) (pa_cons (pv 1) pa_nil)))))) pe_str))), ?_⟩
  obtain ⟨z1, z2, z3⟩ := out_len h8 h5 lf
  rw [len_app] at z1 z2 z3
  refine ⟨_, rfl, p, _, _, _, rfl, rfl, h0.sq, atI_nat (j := 0) rfl, _, _, rfl, rfl, z1, ?_⟩
  refine ⟨⟨_, rfl⟩, ?_⟩
  refine map_tup (p := fun d => V.str (wtext d)) (j := 1) (tp := tOp (rIxT K) (tVar 0) (tC (.int 1))) (fun Q' z => ⟨_, rfl, p, _, _, .ref p2, rfl, rfl, h0.sq, atI_nat (j := 1) rfl, z⟩) (h1.sq (K := K)) h2 (by omega) (fun _ => rfl) (fun v d H' Q m s hd z => ⟨_, rfl, v, d, rfl, hd, lf d m, z H' (Same.refl _)⟩) fun D H' s hD => ?_
  exact ⟨_, D, ws.map wtext, rfl, rfl, .inl (SqL.of (by rw [hD, List.map_map]; rfl)), Nat.le_trans (join_len h5 lf) (by decide), _, _, rfl, rfl, z2, _, _, rfl, rfl, z3, q H' s⟩
/-- a number of a fact -/
def spNum (K : PySem.W.Frag) : Sp := fun vs H Q _ => ∃ (p : Int) (v : V) (d : PyData), vs = [.int p, v] ∧ 0 < p ∧ p ≤ 170141183460469231731687303715884105728 ∧ Dd K H v d ∧ okD d = true ∧ factD d = true ∧ ∀ H', Same H H' → Q (.int (mixF p (ftext d))) H'
theorem scLNumber : FnScope ["p", "fact"] ["p", "fact"] (defScope sLNumber) := ⟨rfl, rfl, rfl, by decide +kernel, rfl, by decide +kernel, by decide +kernel⟩
theorem ok_lnumber {f : Addr} {fd : FuncData} (F : FnP K "_law_number" sLNumber f fd) (DM : Df P w K mg base "_law_mix" 1 ["p", "text"] spMix) (DT : Df P w K mg base "_law_fact_text" 2 ["fact"] (spText K)) : FnOk P w K mg base CX0 3 f fd ["p", "fact"] (spNum K) := by
  refine F.ok scLNumber (fun vs H Q E h => ?_) (fun cdv A outer s H vs Q E hr h => ?_)
  · obtain ⟨p, v, d, rfl, _⟩ := h
    rfl
  obtain ⟨p, v, d, rfl, p0, p1, hd, ok, hf, q⟩ := h
  refine ⟨_, PSs.nox (pss_one (ps_ret (pe_df DM hr (by decide) (pa_cons (pv 0) (pa_cons (pe_df DT hr (by decide) (pa_cons (pv 1) pa_nil)) pa_nil))))), ?_⟩
  exact ⟨_, rfl, _, rfl, v, d, rfl, hd, ok, hf, fun H1 s1 => ⟨p, ftext d, rfl, p0, p1, ftext_sml ok hf, q H1 s1⟩⟩
end
end Sm
/-! raise C(), C an own class whose __init__ (its own or an elder's) stores nothing. -/
namespace Nz
open PySem PySem.Spec PyProof.Rows L2
variable {X : Cx}
theorem mk_endN {pins : List (Addr × Obj)} {σ : L2.St} {H1 H2 : Hp} {hp hp2 h2 : Heap} {g1 g2 : Array GenState} {d1 d2 : Drawn} {t1 t2 : Nat} {os1 os2 : OsState} {a C : Addr} (I1 : Inv X pins σ H1 ⟨hp, g1, d1, t1, os1⟩)
    (ha : hp.objs.size ≤ a) (k : ∀ b o, hp.get? b = some o → hp2.get? b = some o) (un : Un (frs X.stack) [] (upd H1 a (exo a C none)) H2 hp2 h2) (hok : HOk X.prog X.w H2 h2) (ho : os2 = os1) (hb : AllBare g2)
    (ea : H2 a = some (exo a C none)) :
    ∃ (t0 : Addr) (G : Heap), Inv X pins σ (del H2 a) ⟨G, g2, d2, t2, os2⟩ ∧ (∀ b o, G.get? b = some o → h2.get? b = some o) ∧ G.get? a = none ∧
      h2.get? a = some ({ cls := .ref C, dict := none, data := .fields #[.ref t0, .none, .none, .none, .bool false, .none] } : Obj) := by
  obtain ⟨t0, hoe⟩ := exo_at hok ea
  have hn : H1 a = none := I1.hok.fresh ha
  obtain ⟨G, g1', g2'⟩ := restrict h2 fun b => decide (b ≠ a)
  have gk : ∀ b, b ≠ a → G.get? b = h2.get? b := fun b hb => g1' b (decide_eq_true hb)
  have ge : G.get? a = none := g2' a (by simp)
  have nha : ∀ {b : Addr} {o : Obj}, hp.get? b = some o → b ≠ a := fun {b o} z => Nat.ne_of_lt (Nat.lt_of_lt_of_le (Heap.lt_size z) ha)
  have up : ∀ {b : Addr}, b ≠ a → H1 b = none → upd H1 a (exo a C none) b = none := fun {b} hb n => by rw [upd_ne hb]; exact n
  have U : Un (frs X.stack) [] H1 (del H2 a) hp G := {
    keep := fun b o z n hf hx => by
      rw [gk b (nha z)]
      exact un.keep b o (k b o z) (up (nha z) n) hf hx
    slot := fun b o z n hf hx => by
      rw [gk b (nha z)]
      exact un.slot b o (k b o z) (up (nha z) n) hf hx
    free := fun b o z n hx => by
      rw [del_ne (nha z)]
      exact un.free b o (k b o z) (up (nha z) n) hx
    there := fun b o z hx => by
      rw [gk b (nha z)]
      exact un.there b o (k b o z) hx
    tups := fun b xs z => by
      rw [del_ne (ne_of_none z hn)]
      exact un.tups b xs (by rw [upd_ne (ne_of_none z hn)]; exact z)
    frzs := fun b o v z => by
      rw [del_ne (ne_of_none z hn)]
      exact un.frzs b o v (by rw [upd_ne (ne_of_none z hn)]; exact z)
    tbls := fun b ps z => by
      rw [del_ne (ne_of_none z hn)]
      exact un.tbls b ps (by rw [upd_ne (ne_of_none z hn)]; exact z) }
  have hok3 : HOk X.prog X.w (del H2 a) G := fun b o z => by
    have hba : b ≠ a := fun e => by
      rw [e, del_same] at z
      cases z
    rw [del_ne hba] at z
    have noa : ∀ {c : Addr}, H2 c = some (.own b) → c ≠ a := fun {c} hc => at_ne ea hc exo_own
    exact (hok b o z).stay (fun c v hc y => by
        have hca : c ≠ a := by
          rcases hc with hc | hc
          · rw [hc]
            exact hba
          · exact noa hc
        rw [gk c hca]
        exact y)
      (fun c hc => by rw [del_ne (noa hc)]; exact hc) (fun c xs hc => by rw [del_ne (at_ne ea hc exo_tup)]; exact hc)
  have J : Inv X pins σ (del H2 a) ⟨G, g2, d2, t2, os2⟩ := I1.call' (ch := []) ho U hok3 hb (fun b z => absurd z (by simp))
  refine ⟨t0, G, J, fun b o z => ?_, ge, hoe⟩
  by_cases hba : b = a
  · rw [hba, ge] at z
    cases z
  · exact (gk b hba).symm.trans z
theorem del_upd {H : Hp} {a : Addr} {o : HO} (h : H a = none) : del (upd H a o) a = H := funext fun b => by
  by_cases e : b = a
  · rw [e, del_same, h]
  · rw [del_ne e, upd_ne e]
def tRz (C : Addr) (sp : Sp) : L2.St → Hp → XK → Prop := fun _ H Q => ∀ a, H a = none → sp [.ref a] (upd H a (exo a C none)) (fun v H2 => v = .non ∧ H2 a = some (exo a C none) ∧ Q (.ref C) none (del H2 a)) E0
theorem pmk_oex0 {x : Str} {C fI : Addr} {k : Nat} {fd : FuncData} {ps : List Str} {sp : Sp} {p pos : Pos} (T : OexC X.K C) (iC : PySem.W.findIn X.K (.ref C) "__init__" = some (some (.ref fI))) (tI : PySem.W.typeIn X.K (.ref fI) = some (.type "function"))
    (F1 : FnOk X.prog X.w X.K X.mg X.base CX0 k fI fd ps sp) (hr : Room (k + 1) X.A) (hb : Binds X.K fd ps []) (hm : X.mg x = some (.ref C)) (hg : Gl X x := by rfl) (hdb : (x == ("__debug__" : Str)) = false := by decide) :
    PMk X (.Call (.Name x p) [] [] pos) (tRz C sp) := by
  intro pins s σ H Q I h
  obtain ⟨nm, q, N, bs, bm, sn, sub, ab, col, dd, k0, k1, k2, k3, k5, hC, hbm⟩ := T.cls
  refine wpAny_Call_Name_kw (ld_glob I hg hm ?_ hdb)
  refine PySem.W.callWith_K0 I.kIn T.kC ?_
  obtain ⟨hp, g, dr, tk, os⟩ := s
  have hsz : hp.objs.size ≤ hp.objs.size + 1 := Nat.le_succ _
  have hn : H (hp.objs.size + 1) = none := I.hok.fresh hsz
  have hq := h (hp.objs.size + 1) hn
  have kk : ∀ b o, hp.get? b = some o → ((hp.push (PySem.W.kdv_tup [])).push (PySem.HandSPX.excO C hp.objs.size)).get? b = some o := fun b o e => Heap.get?_push_of_some _ (Heap.get?_push_of_some _ e)
  have hget : ((hp.push (PySem.W.kdv_tup [])).push (PySem.HandSPX.excO C hp.objs.size)).get? (hp.objs.size + 1) = some (PySem.HandSPX.excO C hp.objs.size) := by heap_get
  have I2 : Inv X pins σ (upd H (hp.objs.size + 1) (exo (hp.objs.size + 1) C none)) ⟨(hp.push (PySem.W.kdv_tup [])).push (PySem.HandSPX.excO C hp.objs.size), g, dr, tk, os⟩ :=
    I.laid (t' := tk) (a := hp.objs.size + 1) (o := exo (hp.objs.size + 1) C none) (h' := (hp.push (PySem.W.kdv_tup [])).push (PySem.HandSPX.excO C hp.objs.size)) kk hsz (exo_ok hget)
  have r2 : Vals [V.ref (hp.objs.size + 1)] [Value.ref (hp.objs.size + 1)] := .cons rfl .nil
  have hl : ([Value.ref (hp.objs.size + 1)] ++ ([] : List Value)).length = ps.length := by
    have e := r2.length
    rw [F1.len _ _ _ _ hq] at e
    exact e.symm
  refine wpAny_call (PySem.HandSPX.call_own F.excBase_ValueError (fun Y => PySem.HandSPX.refsVE_contains Y bm hbm) (I.kIn _ _ hC) (PySem.W.looks_findIn I.kIn iC) (fun self => PySem.W.bind_fn I.kIn self tI) (Nat.zero_le _)
    (codeAny_mono (F1.run _ X.stack _ _ ⟨[Value.ref (hp.objs.size + 1)], []⟩ [Value.ref (hp.objs.size + 1)] _ _ (fun _ _ _ => False) (hr.make C [] []) (I2.env0.make C [] []) (hb _ [Value.ref (hp.objs.size + 1)] I2.kIn hl) r2 hq) fun r s' hq' => ?_))
  cases r with
  | error er => exact pass0 pins σ _ _ er s' I2 hq'
  | ok fl =>
    cases fl with
    | ret u =>
      obtain ⟨v, H2, os2, bare2, un2, hok2, rv, ev, ea, q2⟩ := hq'
      subst ev
      obtain ⟨h2, g2, d2, t2, os'⟩ := s'
      refine ⟨rv, ?_⟩
      obtain ⟨t0, G, J, kG, ge, hoe⟩ := mk_endN (d2 := d2) (t2 := t2) I hsz kk un2 hok2 os2 bare2 ea
      exact ⟨_, _, _, ⟨G, g2, d2, t2, os'⟩, _, .ref C, none, rfl, J, kG, ge, hoe, ⟨rfl, rfl⟩, rfl, rfl, del_same, rfl, bare2, raises_own T.exC T.tyC, q2⟩
    | next => exact False.elim hq'
    | brk => exact False.elim hq'
    | cont => exact False.elim hq'
end Nz
namespace Sm
open PySem PySem.Spec PyProof.Rows L2 Vd Xv
section
variable {P : Program} {w : World} {K : PySem.W.Frag} {mg : Str → Option Value} {base : Heap}
/-- a def of the text that may raise, wherever it stands -/
def DfX (P : Program) (w : World) (K : PySem.W.Frag) (mg : Str → Option Value) (base : Heap) (x : Str) (k : Nat) (ps : List Str) (sp : Sp) : Prop :=
  ∃ (f : Addr) (fd : FuncData), mg x = some (.ref f) ∧ PySem.W.keepIn K (.ref f) = true ∧ Binds K fd ps [] ∧ FnOk P w K mg base (L2.CX P w) k f fd ps sp
theorem pe_dfX {X : Cx} {x : Str} {k j : Nat} {ps : List Str} {sp : Sp} {W : WX} {e : Expr} {es : List Expr} {ta : TA} {p pos : Pos} (D : DfX X.prog X.w X.K X.mg X.base x k ps sp) (tk : Takes X W) (hr : Room j X.A) (hj : k ≤ j) (ha : PA X (e :: es) ta) (hg : Gl X x := by rfl)
    (hdb : (x == ("__debug__" : Str)) = false := by decide) (he : starEach (e :: es) X.env = (false, eval e X.env) :: starEach es X.env := by rfl) (hpl : (backTo pos (starEach es X.env)).any (·.1) = false := by rfl) :
    PE X (.Call (.Name x p) (e :: es) [] pos) (tCallS sp (WE W) ta) := by
  obtain ⟨f, fd, hm, hk, hb, F⟩ := D
  exact pe_callS F (hr.mono hj) hg hm hk hb (fun σ => passAt tk σ) ha hdb he hpl
/-- an error class without an __init__ of its own -/
structure CM (K : PySem.W.Frag) (mg : Str → Option Value) (x : Str) (C fI : Addr) : Prop where
  oex : OexC K C
  init : PySem.W.findIn K (.ref C) "__init__" = some (some (.ref fI))
  tI : PySem.W.typeIn K (.ref fI) = some (.type "function")
  glo : mg x = some (.ref C)
def sp0 : Sp := fun vs H Q _ => ∃ a : Addr, vs = [.ref a] ∧ Q .non H
def DI0 (P : Program) (w : World) (K : PySem.W.Frag) (mg : Str → Option Value) (base : Heap) (fI : Addr) : Prop := ∃ fd, FnOk P w K mg base CX0 1 fI fd ["self"] sp0 ∧ Binds K fd ["self"] []
theorem pmk_no {X : Cx} {x : Str} {C fI : Addr} {p pos : Pos} (c : CM X.K X.mg x C fI) (D : DI0 X.prog X.w X.K X.mg X.base fI) (hr : Room 2 X.A) (hg : Gl X x := by rfl) (hdb : (x == ("__debug__" : Str)) = false := by decide) : PMk X (.Call (.Name x p) [] [] pos) (Nz.tRz C sp0) := by
  obtain ⟨fd, F, hb⟩ := D
  exact Nz.pmk_oex0 c.oex c.init c.tI F hr hb c.glo hg hdb
theorem rz_ok {σ : L2.St} {C : Addr} {H : Hp} {Q : XK} (q : Q (.ref C) none H) : Nz.tRz C sp0 σ H Q := fun a ha => ⟨a, rfl, rfl, upd_same, by rw [Nz.del_upd ha]; exact q⟩
/-- a look that raises the class at C -/
def spCk (K : PySem.W.Frag) (C : Addr) (g : PyData → Bool) : Sp := fun vs H Q E => ∃ (v : V) (d : PyData), vs = [v] ∧ Dd K H v d ∧ okD d = true ∧ (g d = false → ∀ H', Same H H' → E (.ref C) none H') ∧ (g d = true → ∀ H', Same H H' → Q .non H')
theorem spCk_len {C : Addr} {g : PyData → Bool} {x : Str} : ∀ vs H Q E, spCk K C g vs H Q E → vs.length = [x].length := fun vs H Q E h => by
  obtain ⟨v, d, rfl, _⟩ := h
  rfl
theorem scCkPrime : FnScope ["thing"] ["thing"] (defScope sCkPrime) := ⟨rfl, rfl, rfl, by decide +kernel, rfl, by decide +kernel, by decide +kernel⟩
theorem ok_ckPrime {f C fI : Addr} {fd : FuncData} (F : FnP K "check_prime" sCkPrime f fd) (c : CM K mg "NoPrime" C fI) (DI : DI0 P w K mg base fI) (DP : DA P w K mg base "is_prime" 2 primeD) : FnOk P w K mg base (L2.CX P w) 3 f fd ["thing"] (spCk K C primeD) := by
  refine F.ok (CX := L2.CX P w) scCkPrime spCk_len (fun cdv A outer s H vs Q E hr h => ?_)
  obtain ⟨v, d, rfl, hd, ok, no, yes⟩ := h
  have hr2 := hr.mono (j := 2) (by decide)
  refine ⟨_, (pss_one (ps_if (pt_not (pt_val (pe_df DP hr (by decide) (pa_cons (pv 0) pa_nil)))) (pss_one (ps_raise rfl (takes_of rfl rfl rfl rfl) (pmk_no c DI hr2))) pss_nil)), ?_⟩
  refine ⟨_, rfl, v, d, rfl, hd, ok, fun H1 s1 => ⟨_, rfl, tst (fun e => ?_) fun e => ?_⟩⟩
  · exact rz_ok (no (by simpa using e) H1 s1)
  · exact yes (by simpa using e) H1 s1
theorem prime_of {d : PyData} (h : primeD d = true) : ∃ p, d = .int p ∧ 0 < p ∧ p ≤ 170141183460469231731687303715884105728 := by
  cases d with
  | int p =>
    obtain ⟨h1, h2⟩ := Bool.and_eq_true_iff.mp (show (decide (1000 ≤ p) && decide (p ≤ 170141183460469231731687303715884105728)) = true from h)
    have h3 := of_decide_eq_true h1
    have h4 := of_decide_eq_true h2
    exact ⟨p, rfl, by omega, h4⟩
  | _ => cases h
theorem text_of' {d : PyData} (h : textD d = true) : ∃ x, d = .str x ∧ Sml x := by
  cases d with
  | str x => exact ⟨x, rfl, sml_text h⟩
  | _ => cases h
end
end Sm
namespace Sm
open PySem PySem.Spec PyProof.Rows L2 Vd
/-! ### what the hand keeps -/
def Live (a : Addr) (H : Hp) : Prop := ∃ xs, H a = some (.lst xs)
theorem Live.same {a : Addr} {H H' : Hp} (h : Live a H) (s : Same H H') : Live a H' := h.imp fun _ z => s _ _ z
theorem Live.ne {a p : Addr} {H : Hp} (h : Live a H) (n : H p = none) : p ≠ a := fun e => by
  obtain ⟨o, h⟩ := h
  rw [e, h] at n
  cases n
theorem HandC.live {H : Hp} {a c : Addr} (h : HandC H a c) : Live a H := by
  obtain ⟨cs, i, b, sd, n, z⟩ := h
  exact ⟨_, z.at_⟩
theorem keep_same {a : Addr} {H H' : Hp} (s : Same H H') : Keep a H H' := fun b o _ h => s b o h
theorem HandC.same {H H' : Hp} {a c : Addr} (h : HandC H a c) (k : Same H H') : HandC H' a c := by
  obtain ⟨cs, i, b, sd, n, x⟩ := h
  exact ⟨cs, i, b, sd, n, k _ _ x.at_, k _ _ x.cells, x.len, x.pos, x.i0, x.b0, x.s0, x.n0⟩
theorem HandC.set {H : Hp} {a c D : Addr} {o : HO} (h : HandC H a c) (n1 : D ≠ a) (n2 : D ≠ c) : HandC (upd H D o) a c := by
  obtain ⟨cs, i, b, sd, n, x⟩ := h
  exact ⟨cs, i, b, sd, n, by rw [upd_ne n1.symm]; exact x.at_, by rw [upd_ne n2.symm]; exact x.cells, x.len, x.pos, x.i0, x.b0, x.s0, x.n0⟩
theorem HandC.cne {H : Hp} {a c D : Addr} (h : HandC H a c) (n : H D = none) : D ≠ c := fun e => by
  obtain ⟨cs, i, b, sd, k, x⟩ := h
  have := x.cells
  rw [← e, n] at this
  cases this
section
variable {K : PySem.W.Frag} {a c : Addr} {H0 : Hp} {σ : L2.St}
theorem _root_.Vd.Dv.ky {H H' : Hp} {v : V} {d : PyData} (h : Dv a K H v d) (k : Keep a H H') : Dv a K H' v d := h.kp (kp_keep k)
theorem _root_.Vd.DvAll.ky {H H' : Hp} {v : List V} {d : List PyData} (h : DvAll a K H v d) (k : Keep a H H') : DvAll a K H' v d := DdAll.same (kp_keep k) h
theorem tris_new {p : Addr} {H : Hp} {xs : List V} {ds : List PyData} (hl : Live a H) (n : H p = none) (x : DvAll a K H xs ds) : Dv a K (upd H p (.tup xs)) (.ref p) (.tuple ds) :=
  Dv.tup (.inl upd_same) (hl.ne n) (x.kp (kp_up n))
/-! ### readings of whole numbers alone -/
def YI (σ : L2.St) (t : TE) (i : Int) : Prop := ∀ (H : Hp) (Q : VK), Q (.int i) H → t σ H Q
theorem tC_pass {v : V} {H : Hp} {Q : VK} (h : Q v H) : tC v σ H Q := h
theorem yi_c {i : Int} : YI σ (tC (.int i)) i := fun _ _ q => q
theorem yi_var {k : Nat} {i : Int} (h : σ[k]? = some (some (.int i))) : YI σ (tVar k) i := fun _ _ q => ⟨_, h, q⟩
theorem yi_neg {t : TE} {i : Int} (h : YI σ t i) : YI σ (tUn (rU fun i => .int (-i)) t) (-i) := fun H Q q => h H _ ⟨_, rfl, q⟩
theorem yi_add {t u : TE} {i j : Int} (h : YI σ t i) (h' : YI σ u j) : YI σ (tOp (rI0 fun i j => .int (i + j)) t u) (i + j) := fun H Q q => h H _ (h' H _ ⟨_, _, rfl, rfl, q⟩)
theorem yi_sub {t u : TE} {i j : Int} (h : YI σ t i) (h' : YI σ u j) : YI σ (tOp (rI0 fun i j => .int (i - j)) t u) (i - j) := fun H Q q => h H _ (h' H _ ⟨_, _, rfl, rfl, q⟩)
theorem yi_pow {t u : TE} {i j : Int} (h : YI σ t i) (h' : YI σ u j) (hc : CPow i j := by exact ⟨by decide, by decide, by decide⟩) : YI σ (tOp (rI CPow fun i j => .int (i ^ j.toNat)) t u) (i ^ j.toNat) := fun H Q q => h H _ (h' H _ ⟨_, _, rfl, rfl, hc, q⟩)
theorem yi_shl {t u : TE} {i j : Int} (h : YI σ t i) (h' : YI σ u j) (hc : CPow i j := by exact ⟨by decide, by decide, by decide⟩) : YI σ (tOp (rI CPow fun i j => .int (i * 2 ^ j.toNat)) t u) (i * 2 ^ j.toNat) := fun H Q q => h H _ (h' H _ ⟨_, _, rfl, rfl, hc, q⟩)
/-! ### readings that give some data of which R holds -/
def YE (a c : Addr) (K : PySem.W.Frag) (H0 : Hp) (σ : L2.St) (t : TE) (R : PyData → Prop) : Prop := ∀ (H : Hp) (Q : VK), HandC H a c → Keep a H0 H → (∀ v d H', R d → HandC H' a c → Keep a H H' → Dv a K H' v d → Q v H') → t σ H Q
def YA (a c : Addr) (K : PySem.W.Frag) (H0 : Hp) (σ : L2.St) (t : TA) (n : Nat) (R : PyData → Prop) : Prop := ∀ (H : Hp) (Q : List V → Hp → Prop), HandC H a c → Keep a H0 H → (∀ vs ds H', vs.length = n → (∀ d ∈ ds, R d) → HandC H' a c → Keep a H H' → DvAll a K H' vs ds → Q vs H') → t σ H Q
/-- a draw below m -/
def YD (a c : Addr) (H0 : Hp) (σ : L2.St) (t : TE) (m : Int) : Prop := ∀ (H : Hp) (Q : VK), HandC H a c → Keep a H0 H → (∀ (d : Int) H', 0 ≤ d → d < m → HandC H' a c → Keep a H H' → Q (.int d) H') → t σ H Q
variable {R : PyData → Prop}
theorem ye_int {t : TE} {i : Int} (h : YI σ t i) (r : R (.int i)) : YE a c K H0 σ t R := fun H Q hh k q => h H Q (q _ _ H r hh .refl (.int i))
theorem ye_bl {i : Bool} (r : R (.bool i)) : YE a c K H0 σ (tC (.bl i)) R := fun H Q hh k q => q _ _ H r hh .refl (.bl i)
theorem ye_str {i : Str} (r : R (.str i)) : YE a c K H0 σ (tC (.str i)) R := fun H Q hh k q => q _ _ H r hh .refl (.str i)
theorem ye_non (r : R .none) : YE a c K H0 σ (tC .non) R := fun H Q hh k q => q _ _ H r hh .refl .non
theorem ye_var {i : Nat} {v : V} {d : PyData} (h : σ[i]? = some (some v)) (hd : Dv a K H0 v d) (r : R d) : YE a c K H0 σ (tVar i) R := fun H Q hh k q => ⟨v, h, q v d H r hh .refl (hd.ky k)⟩
theorem ya_nil : YA a c K H0 σ tNil 0 R := fun H Q hh k q => q [] [] H rfl (fun _ z => nomatch z) hh .refl .nil
theorem ya_cons {t : TE} {ta : TA} {n : Nat} (h : YE a c K H0 σ t R) (ha : YA a c K H0 σ ta n R) : YA a c K H0 σ (tCons t ta) (n + 1) R := fun H Q hh k q =>
  h H _ hh k fun v d H1 z hh1 k1 hd => ha H1 _ hh1 (k.trans k1) fun vs ds H2 len zs hh2 k2 hds => q (v :: vs) (d :: ds) H2 (by rw [List.length_cons, len]) (fun x hx => by
    rcases List.mem_cons.mp hx with rfl | hx
    · exact z
    · exact zs x hx) hh2 (k1.trans k2) (.cons (hd.ky k2) hds)
abbrev Ok (d : PyData) : Prop := okD d = true
theorem ok_all : ∀ {ds : List PyData}, (∀ d ∈ ds, Ok d) → okAll ds = true
  | [], _ => by
    unfold okAll
    rfl
  | d :: r, h => by
    unfold okAll
    rw [h d List.mem_cons_self, ok_all fun x hx => h x (List.mem_cons_of_mem _ hx)]
    rfl
theorem ok_tuple {ds : List PyData} (n : ds.length ≤ 4000) (h : okAll ds = true) : Ok (.tuple ds) := by
  show okD _ = true
  unfold okD
  rw [decide_eq_true n, h]
  rfl
theorem ok_list {ds : List PyData} (n : ds.length ≤ 4000) (h : okAll ds = true) : Ok (.list ds) := by
  show okD _ = true
  unfold okD
  rw [decide_eq_true n, h]
  rfl
theorem ok_strI {x : Str} (n : x.length ≤ 4000) : Ok (.str x) := by
  show okD _ = true
  unfold okD
  exact decide_eq_true n
theorem ok_intI {x : Int} (n : x.natAbs < 2 ^ 200) : Ok (.int x) := by
  show okD _ = true
  unfold okD
  exact decide_eq_true n
theorem ye_tup {ta : TA} {n : Nat} (ha : YA a c K H0 σ ta n Ok) (hn : n ≤ 4000 := by decide) : YE a c K H0 σ (tTup ta) Ok := fun H Q hh k q =>
  ha H _ hh k fun vs ds H1 len zs hh1 k1 hds => ⟨by rw [len, sizeLine_eq]; omega, fun p hp => q _ (.tuple ds) _ (ok_tuple (by rw [← dall_len hds, len]; exact hn) (ok_all zs)) (hh1.same (same_up hp)) (k1.trans (keep_same (same_up hp))) (tris_new hh1.live hp hds)⟩
theorem ye_lst {ta : TA} {n : Nat} (ha : YA a c K H0 σ ta n Ok) (hn : n ≤ 4000 := by decide) : YE a c K H0 σ (tLst ta) Ok := fun H Q hh k q =>
  ha H _ hh k fun vs ds H1 len zs hh1 k1 hds => ⟨by rw [len, sizeLine_eq]; omega, fun p hp => q _ (.list ds) _ (ok_list (by rw [← dall_len hds, len]; exact hn) (ok_all zs)) (hh1.same (same_up hp)) (k1.trans (keep_same (same_up hp))) (Dv.lst upd_same (hh1.live.ne hp) (hds.kp (kp_up hp)))⟩
theorem ye_dict0 : YE a c K H0 σ tDNewK Ok := fun H Q hh k q p hp => q _ (.dict []) _ (by decide) (hh.same (same_up hp)) (keep_same (same_up hp)) (Dd.dct (vis_at upd_same (hh.live.ne hp) fun _ z => nomatch z) .nil)
theorem ye_dict1 {i : Nat} {v : V} {d : PyData} (h : σ[i]? = some (some v)) (hd : Dv a K H0 v d) : YE a c K H0 σ (tDisp [(tC (.int 0), tVar i)]) Ok := fun H Q hh k q p hp => ⟨v, h, upd_same, [(Sum.inl 0, v)], rfl, by show 1 ≤ 15; decide, by
  have e : upd (upd H p (.dK [])) p (.dK (mergeK [] [(Sum.inl 0, v)])) = upd H p (.dK [(Sum.inl 0, v)]) := by
    rw [upd_upd]
    rfl
  rw [e]
  exact q _ (.dict [(.int 0, d)]) _ (by unfold Ok okD; rfl) (hh.same (same_up hp)) (keep_same (same_up hp)) (Dd.dct (vis_at upd_same (hh.live.ne hp) fun _ z => nomatch z) (.cons (k := Sum.inl 0) ((hd.ky k).kp (kp_up hp)) .nil))⟩
/-! ### draws -/
theorem yd_draw {i : Nat} {t : TE} {m : Int} (hσ : σ[i]? = some (some (.ref a))) (h : YI σ t m) (m0 : 0 < m) (m1 : m < 1073741824) : YD a c H0 σ (tCall spDraw [] E0 (tCons (tVar i) (tCons t tNil))) m := fun H Q hh k q =>
  ⟨_, hσ, h H _ ⟨a, c, m, rfl, hh, m0, m1, q⟩⟩
theorem ye_draw {t : TE} {m : Int} (h : YD a c H0 σ t m) (r : ∀ d, 0 ≤ d → d < m → R (.int d)) : YE a c K H0 σ t R := fun H Q hh k q => h H Q hh k fun d H' d0 d1 hh' k' => q _ _ H' (r d d0 d1) hh' k' (.int d)
theorem yd_add {t u : TE} {j m : Int} (hu : YI σ u j) (h : YD a c H0 σ t m) (R : PyData → Prop) (r : ∀ d, 0 ≤ d → d < m → R (.int (j + d))) : YE a c K H0 σ (tOp (rI0 fun i j => .int (i + j)) u t) R := fun H Q hh k q => hu H _ (h H _ hh k fun d H' d0 d1 hh' k' => ⟨_, _, rfl, rfl, q _ _ H' (r d d0 d1) hh' k' (.int _)⟩)
theorem yd_sub {t u : TE} {j m : Int} (hu : YI σ u j) (h : YD a c H0 σ t m) (R : PyData → Prop) (r : ∀ d, 0 ≤ d → d < m → R (.int (d - j))) : YE a c K H0 σ (tOp (rI0 fun i j => .int (i - j)) t u) R := fun H Q hh k q => h H _ hh k fun d H' d0 d1 hh' k' => hu H' _ ⟨_, _, rfl, rfl, q _ _ H' (r d d0 d1) hh' k' (.int _)⟩
/-- [..][a draw] -/
theorem ye_ixdraw {t : TE} {ta : TA} {n : Nat} (ha : YA a c K H0 σ ta n R) (h : ∀ H1, YD a c H1 σ t n) (hn : n ≤ 4000) : YE a c K H0 σ (tOp (rIxL K) (tLst ta) t) R := fun H Q hh k q =>
  ha H _ hh k fun vs ds H1 len zs hh1 k1 hds => ⟨by rw [len, sizeLine_eq]; omega, fun p hp => h _ _ _ (hh1.same (same_up hp)) .refl fun d H2 d0 d1 hh2 k2 => by
    obtain ⟨j, rfl⟩ : ∃ j : Nat, d = (j : Int) := ⟨d.toNat, by omega⟩
    have hj : j < vs.length := by omega
    obtain ⟨d, hd1, hd2⟩ := dall_at' hds (List.getElem?_eq_getElem hj)
    have np := hh1.live.ne hp
    refine ⟨p, vs, _, vs[j], rfl, rfl, SqL.of (k2 _ _ np upd_same), atI_nat (List.getElem?_eq_getElem hj), ?_⟩
    exact q _ d H2 (zs d (List.mem_of_getElem? hd1)) hh2 (k1.trans ((keep_same (same_up hp)).trans k2)) (Dv.ky (Dd.same (kp_up hp) hd2) k2)⟩
/-- a list of such things -/
structure LD (a : Addr) (K : PySem.W.Frag) (H : Hp) (L : Addr) (n : Nat) (R : PyData → Prop) : Prop where
  ex : ∃ vs ds, H L = some (.lst vs) ∧ DvAll a K H vs ds ∧ vs.length = n ∧ ∀ d ∈ ds, R d
  ne : L ≠ a
theorem LD.ky {H H' : Hp} {L : Addr} {n : Nat} (h : LD a K H L n R) (k : Keep a H H') : LD a K H' L n R := by
  obtain ⟨⟨vs, ds, h1, h2, h3, h4⟩, ne⟩ := h
  exact ⟨⟨vs, ds, k _ _ ne h1, h2.ky k, h3, h4⟩, ne⟩
theorem ld_lst {ta : TA} {n : Nat} {H : Hp} {Q : VK} (ha : YA a c K H0 σ ta n R) (hh : HandC H a c) (k : Keep a H0 H) (hn : n ≤ 4000) (q : ∀ L H', HandC H' a c → Keep a H H' → LD a K H' L n R → Q (.ref L) H') : tLst ta σ H Q :=
  ha H _ hh k fun vs ds H1 len zs hh1 k1 hds => ⟨by rw [len, sizeLine_eq]; omega, fun p hp => q p _ (hh1.same (same_up hp)) (k1.trans (keep_same (same_up hp))) ⟨⟨vs, ds, upd_same, hds.kp (kp_up hp), len, zs⟩, hh1.live.ne hp⟩⟩
theorem ld_cat {i n m : Nat} {L : Addr} {ta : TA} {H : Hp} {Q : VK} (hσ : σ[i]? = some (some (.ref L))) (hL : LD a K H L n R) (ha : YA a c K H0 σ ta m R) (hh : HandC H a c) (k : Keep a H0 H) (hn : n + m ≤ 4000) (q : ∀ L' H', HandC H' a c → Keep a H H' → LD a K H' L' (n + m) R → Q (.ref L') H') :
    tOp rCat (tVar i) (tLst ta) σ H Q := ⟨_, hσ, ld_lst (n := m) ha hh k (by omega) fun L2 H1 hh1 k1 l2 => by
  obtain ⟨⟨vs, ds, h1, h2, h3, h4⟩, ne⟩ := hL.ky k1
  obtain ⟨⟨us, es, g1, g2, g3, g4⟩, ne2⟩ := l2
  refine ⟨L, L2, _, _, rfl, rfl, h1, g1, by rw [h3, g3, sizeLine_eq]; omega, fun p hp => q p _ (hh1.same (same_up hp)) (k1.trans (keep_same (same_up hp))) ⟨⟨_, ds ++ es, upd_same, (DvAll.kp (dall_app h2 g2) (kp_up hp)), by rw [List.length_append, h3, g3], fun d hd => ?_⟩, hh1.live.ne hp⟩⟩
  rcases List.mem_append.mp hd with hd | hd
  · exact h4 d hd
  · exact g4 d hd⟩
theorem ld_some {H : Hp} {L : Addr} {n : Nat} {Q : VK} {E : XK} (hL : LD a K H L n R) (hh : HandC H a c) (h0 : 0 < n) (h1 : n ≤ 1000) (q : ∀ v d H', R d → HandC H' a c → Keep a H H' → Dv a K H' v d → Q v H') : spSome K [.ref a, .ref L] H Q E := by
  obtain ⟨⟨vs, ds, e1, e2, e3, e4⟩, ne⟩ := hL
  refine ⟨a, c, L, vs, rfl, hh, ne, SqL.of e1, by omega, by omega, fun x H' hx hh' k => ?_⟩
  obtain ⟨d, hd1, hd2⟩ := dall_mem e2 hx
  exact q x d H' (e4 d hd1) hh' k (Dv.ky hd2 k)
/-- _law_some(hand, [..]) -/
theorem ye_some {i n : Nat} {ta : TA} (hσ : σ[i]? = some (some (.ref a))) (ha : YA a c K H0 σ ta n R) (h0 : 0 < n := by decide) (h1 : n ≤ 1000 := by decide) : YE a c K H0 σ (tCall (spSome K) [] E0 (tCons (tVar i) (tCons (tLst ta) tNil))) R := fun H Q hh k q =>
  ⟨_, hσ, ld_lst (n := n) ha hh k (by omega) fun L H1 hh1 k1 l1 => ld_some (E := E0) l1 hh1 h0 h1 fun v d H2 r hh2 k2 hd => q v d H2 r hh2 (k1.trans k2) hd⟩
/-- _law_some(hand, things) of a list in a slot -/
theorem ye_somev {i j n : Nat} {L : Addr} (hσ : σ[i]? = some (some (.ref a))) (hL : σ[j]? = some (some (.ref L))) (l : LD a K H0 L n R) (h0 : 0 < n) (h1 : n ≤ 1000) : YE a c K H0 σ (tCall (spSome K) [] E0 (tCons (tVar i) (tCons (tVar j) tNil))) R := fun H Q hh k q =>
  ⟨_, hσ, _, hL, ld_some (E := E0) (l.ky k) hh h0 h1 q⟩
/-- a call of a def that draws -/
def spY (K : PySem.W.Frag) (R : PyData → Prop) : Sp := fun vs H Q _ => ∃ a c : Addr, vs = [.ref a] ∧ HandC H a c ∧ ∀ v d H', R d → HandC H' a c → Keep a H H' → Dv a K H' v d → Q v H'
theorem spY_len {x : Str} : ∀ vs H Q E, spY K R vs H Q E → vs.length = [x].length := fun vs H Q E h => by
  obtain ⟨a, c, rfl, _⟩ := h
  rfl
theorem ye_call {i : Nat} (hσ : σ[i]? = some (some (.ref a))) : YE a c K H0 σ (tCall (spY K R) [] E0 (tCons (tVar i) tNil)) R := fun H Q hh k q => ⟨_, hσ, a, c, rfl, hh, q⟩
/-- x if a draw == j else y -/
theorem ye_ifd {td ta tb : TE} {m j : Int} (hd : YD a c H0 σ td m) (h1 : YE a c K H0 σ ta R) (h2 : YE a c K H0 σ tb R) : YE a c K H0 σ (tIf (tTest (tOp rEq td (tC (.int j)))) ta tb) R := fun H Q hh k q =>
  hd H _ hh k fun d H1 d0 d1 hh1 k1 => ⟨rfl, _, rfl, tst (fun e => h1 H1 _ hh1 (k.trans k1) fun v d H2 r hh2 k2 hd => q v d H2 r hh2 (k1.trans k2) hd) fun e => h2 H1 _ hh1 (k.trans k1) fun v d H2 r hh2 k2 hd => q v d H2 r hh2 (k1.trans k2) hd⟩
theorem YE.imp {t : TE} {R' : PyData → Prop} (h : YE a c K H0 σ t R) (i : ∀ d, R d → R' d) : YE a c K H0 σ t R' := fun H Q hh k q => h H Q hh k fun v d H' r => q v d H' (i d r)
/-! ### texts -/
def rMulS : R2 := fun x y H Q => ∃ (i : Str) (n : Int), x = .str i ∧ y = .int n ∧ i.length = 1 ∧ 1 ≤ n ∧ n ≤ 1000 ∧ Q (.str (Txt.mul i n)) H
theorem op_mulS {X : Cx} : OpR X (binaryOp .Mult) rMulS := by
  intro pins s σ H x y v u Q I rx ry h
  obtain ⟨i, n, rfl, rfl, hz, n0, n1, q⟩ := h
  obtain ⟨t, rfl⟩ := rx
  obtain ⟨t', rfl⟩ := ry
  refine PySem.SB.mul ⟨?_, fun _ _ => ?_, fun _ _ => ?_⟩ fun t2 k => ⟨.str (Txt.mul i n), H, I.tok _, ⟨t2, rfl⟩, q⟩
  · rw [decide_eq_false (by omega), decide_eq_false (by omega)]
    rfl
  · rw [hz]
    have h1 : (9223372036854775807 : Int) / n ≥ 9223372036854775807 / 1000 := by
      rw [ge_iff_le, Int.le_ediv_iff_mul_le (by omega)]
      have : (9223372036854775807 / 1000 : Int) * n ≤ (9223372036854775807 / 1000) * 1000 := Int.mul_le_mul_of_nonneg_left n1 (by decide)
      omega
    have e : ((2 : Int) ^ 63 - 1) = 9223372036854775807 := by decide
    rw [e]
    omega
  · rw [hz]
    unfold Builtin.Str.tooLong
    rw [sizeLine_eq]
    exact decide_eq_false (by omega)
theorem ye_mulS {u : TE} {i : Str} (hz : i.length = 1) (h : YE a c K H0 σ u fun d => ∃ k, d = .int k ∧ 1 ≤ k ∧ k ≤ 1000 ∧ R (.str (Txt.mul i k))) : YE a c K H0 σ (tOp rMulS (tC (.str i)) u) R := fun H Q hh k q => h H _ hh k fun v d H' r hh' k' hd => by
  obtain ⟨n, rfl, n0, n1, r⟩ := r
  cases hd
  exact ⟨i, n, rfl, rfl, hz, n0, n1, q _ _ H' r hh' k' (.str _)⟩
/-! ### tuples -/
def YT (a c : Addr) (K : PySem.W.Frag) (H0 : Hp) (σ : L2.St) (t : TE) (m : Nat) : Prop := ∀ (H : Hp) (Q : VK), HandC H a c → Keep a H0 H → (∀ v ds H', ds.length ≤ m → okAll ds = true → HandC H' a c → Keep a H H' → Dv a K H' v (.tuple ds) → Q v H') → t σ H Q
theorem ofTup' {H : Hp} {v : V} {ds : List PyData} (h : Dv a K H v (.tuple ds)) : ∃ p xs, v = .ref p ∧ TupN (vis a H) p xs ∧ DvAll a K H xs ds := by
  cases h with
  | tup h1 h2 => exact ⟨_, _, rfl, h1, h2⟩
theorem yt_e {t : TE} {m : Nat} (h : YT a c K H0 σ t m) (hm : m ≤ 4000 := by decide) : YE a c K H0 σ t Ok := fun H Q hh k q => h H Q hh k fun v ds H1 l o hh1 k1 hd => q v _ H1 (ok_tuple (by omega) o) hh1 k1 hd
theorem yt_tup {ta : TA} {n : Nat} (ha : YA a c K H0 σ ta n Ok) (hn : n ≤ 4000 := by decide) : YT a c K H0 σ (tTup ta) n := fun H Q hh k q =>
  ha H _ hh k fun vs ds H1 len zs hh1 k1 hds => ⟨by rw [len, sizeLine_eq]; omega, fun p hp => q _ ds _ (by rw [← dall_len hds, len]; exact Nat.le_refl _) (ok_all zs) (hh1.same (same_up hp)) (k1.trans (keep_same (same_up hp))) (tris_new hh1.live hp hds)⟩
theorem yt_var {i : Nat} {v : V} {ds : List PyData} {m : Nat} (h : σ[i]? = some (some v)) (hd : Dv a K H0 v (.tuple ds)) (z : ds.length ≤ m) (o : okAll ds = true) : YT a c K H0 σ (tVar i) m := fun H Q hh k q => ⟨v, h, q v ds H z o hh .refl (hd.ky k)⟩
theorem okAll_app : ∀ {ds es : List PyData}, okAll ds = true → okAll es = true → okAll (ds ++ es) = true := fun {ds es} h k => ok_all fun d hd => by
  rcases List.mem_append.mp hd with hd | hd
  · exact okAll_mem h hd
  · exact okAll_mem k hd
theorem yt_cat {t u : TE} {m n : Nat} (h : YT a c K H0 σ t m) (h' : YT a c K H0 σ u n) (hm : m + n ≤ 8000 := by decide) : YT a c K H0 σ (tOp (rCatA K) t u) (m + n) := fun H Q hh k q =>
  h H _ hh k fun v1 d1 H1 l1 o1 hh1 k1 e1 => h' H1 _ hh1 (k.trans k1) fun v2 d2 H2 l2 o2 hh2 k2 e2 => by
    have e1' := e1.ky k2
    obtain ⟨p1, xs1, rfl, t1, g1⟩ := ofTup' e1'
    obtain ⟨p2, xs2, rfl, t2, g2⟩ := ofTup' e2
    have z1 := dall_len g1
    have z2 := dall_len g2
    refine ⟨p1, p2, xs1, xs2, rfl, rfl, (tupN_vis t1).sq, (tupN_vis t2).sq, by rw [z1, z2, sizeLine_eq]; omega, fun e => ?_, fun _ e => ?_, fun _ _ p hp => ?_⟩
    · exact q _ d2 H2 (by omega) o2 hh2 (k1.trans k2) e2
    · exact q _ d1 H2 (by omega) o1 hh2 (k1.trans k2) e1'
    · exact q _ (d1 ++ d2) _ (by rw [List.length_append]; omega) (okAll_app o1 o2) (hh2.same (same_up hp)) ((k1.trans k2).trans (keep_same (same_up hp))) (tris_new hh2.live hp (dall_app g1 g2))
theorem dall_cut {H : Hp} {vs : List V} {ds : List PyData} (h : DdAll K H vs ds) (lo hi : Option Int) : ∃ es, DdAll K H (cutV vs lo hi) es ∧ es.length ≤ ds.length ∧ ∀ e ∈ es, e ∈ ds := by
  refine ⟨_, dall_take _ (dall_drop _ h), ?_, fun e he => List.mem_of_mem_drop (List.mem_of_mem_take he)⟩
  rw [List.length_take, List.length_drop]
  omega
theorem yt_sl {t : TE} {tl th : TO} {lo hi : Option Int} {m : Nat} (h : YT a c K H0 σ t m) (hl : ∀ H (Q : Option Int → Hp → Prop), Q lo H → tl σ H Q) (hu : ∀ H (Q : Option Int → Hp → Prop), Q hi H → th σ H Q) : YT a c K H0 σ (tSl (rSlA K) t tl th) m := fun H Q hh k q =>
  h H _ hh k fun v1 d1 H1 l1 o1 hh1 k1 e1 => hl H1 _ (hu H1 _ (by
    obtain ⟨p1, xs1, rfl, t1, g1⟩ := ofTup' e1
    refine ⟨p1, xs1, rfl, (tupN_vis t1).sq, fun _ => q _ d1 H1 l1 o1 hh1 k1 e1, fun _ p hp => ?_⟩
    obtain ⟨es, g, gl, gm⟩ := dall_cut g1 lo hi
    exact q _ es _ (by omega) (ok_all fun d hd => okAll_mem o1 (gm d hd)) (hh1.same (same_up hp)) (k1.trans (keep_same (same_up hp))) (tris_new hh1.live hp g)))
theorem yo_no {σ : L2.St} : ∀ H (Q : Option Int → Hp → Prop), Q none H → tNoPart σ H Q := fun _ _ z => z
theorem yo_some {σ : L2.St} {t : TE} {i : Int} (h : YI σ t i) : ∀ H (Q : Option Int → Hp → Prop), Q (some i) H → tPart t σ H Q := fun H _ z => h H _ ⟨_, rfl, z⟩
theorem dall_flat {H : Hp} {vs : List V} {ds : List PyData} (h : DdAll K H vs ds) : ∀ n : Nat, DdAll K H (List.replicate n vs).flatten (List.replicate n ds).flatten
  | 0 => .nil
  | n + 1 => by
    rw [List.replicate_succ, List.replicate_succ, List.flatten_cons, List.flatten_cons]
    exact dall_app h (dall_flat h n)
theorem yt_rep {t : TE} {m k : Nat} {ti : TE} (hk : YI σ ti k) (k2 : 2 ≤ k) (k3 : k ≤ 100) (hm : m ≤ 10) (ne : ∀ (H : Hp) (Q : VK), HandC H a c → Keep a H0 H → (∀ v ds H', ds ≠ [] → ds.length ≤ m → okAll ds = true → HandC H' a c → Keep a H H' → Dv a K H' v (.tuple ds) → Q v H') → t σ H Q) : YT a c K H0 σ (tOp (rRepT K) t ti) (k * m) := fun H Q hh kk q =>
  ne H _ hh kk fun v1 d1 H1 n1 l1 o1 hh1 k1 e1 => hk H1 _ (by
    obtain ⟨p1, xs1, rfl, t1, g1⟩ := ofTup' e1
    have z1 := dall_len g1
    refine ⟨p1, (k : Int), xs1, rfl, rfl, (tupN_vis t1).sq, fun e => n1 (List.length_eq_zero_iff.mp (by rw [← z1, e]; rfl)), by omega, by omega, by omega, fun p hp => ?_⟩
    refine q _ (List.replicate k d1).flatten _ ?_ (ok_all fun d hd => ?_) (hh1.same (same_up hp)) (k1.trans (keep_same (same_up hp))) (tris_new hh1.live hp (by rw [Int.toNat_natCast]; exact dall_flat g1 k))
    · rw [List.length_flatten, List.map_replicate, List.sum_replicate_nat]
      exact Nat.mul_le_mul_left _ l1
    · obtain ⟨l, hl, hd⟩ := List.mem_flatten.mp hd
      rw [List.eq_of_mem_replicate hl] at hd
      exact okAll_mem o1 hd)
def rLof (K : PySem.W.Frag) : List V → Hp → VK → Prop := fun xs H Q => ∃ p ys, xs = [.ref p] ∧ (SqL K H p ys ∨ SqT K H p ys) ∧ ∀ l, H l = none → Q (.ref l) (upd H l (.lst ys))
theorem call_lof {X : Cx} : CallR X (.type "list") (rLof X.K) := call_list_of
theorem ye_list {i : Nat} {v : V} {ds : List PyData} (h : σ[i]? = some (some v)) (hd : Dv a K H0 v (.tuple ds)) (z : ds.length ≤ 4000) (o : okAll ds = true) : YE a c K H0 σ (tCB (rLof K) (tCons (tVar i) tNil)) Ok := fun H Q hh k q => by
  obtain ⟨p1, xs1, rfl, t1, g1⟩ := ofTup' (hd.ky k)
  exact ⟨_, h, p1, xs1, rfl, .inr (tupN_vis t1).sq, fun p hp => q _ (.list ds) _ (ok_list z o) (hh.same (same_up hp)) (keep_same (same_up hp)) (Dv.lst upd_same (hh.live.ne hp) (DvAll.kp g1 (kp_up hp)))⟩
theorem ye_ix0 {i : Nat} {v : V} {d : PyData} {ds : List PyData} (h : σ[i]? = some (some v)) (hd : Dv a K H0 v (.tuple (d :: ds))) (r : R d) : YE a c K H0 σ (tOp (rIxT K) (tVar i) (tC (.int 0))) R := fun H Q hh k q => by
  obtain ⟨p1, xs1, rfl, t1, g1⟩ := ofTup' (hd.ky k)
  cases g1 with
  | cons g1 _ => exact ⟨_, h, p1, _, _, _, rfl, rfl, (tupN_vis t1).sq, atI_nat (j := 0) rfl, q _ d H r hh .refl g1⟩
theorem ye_upper {i : Nat} {x : Str} (h : σ[i]? = some (some (.str x))) (hz : x.length ≤ 1000) : YE a c K H0 σ (tM0 (fun x xs H Q => ∃ a, x = .str a ∧ xs = [] ∧ a.length ≤ 5592405 ∧ Q (.str (Txt.upper a)) H) (tVar i)) Ok := fun H Q hh k q =>
  ⟨_, h, ⟨_, rfl⟩, x, rfl, rfl, by omega, q _ _ H (ok_strI (by have := len_upper x; omega)) hh .refl (.str _)⟩
theorem ye_addS {i : Nat} {x y : Str} (h : σ[i]? = some (some (.str x))) (hz : x.length ≤ 1000) (hy : y.length ≤ 1000) : YE a c K H0 σ (tOp (fun x y H Q => ∃ i j, x = .str i ∧ y = .str j ∧ i.length + j.length ≤ sizeLine ∧ Q (.str (i ++ j)) H) (tVar i) (tC (.str y))) Ok := fun H Q hh k q =>
  ⟨_, h, x, y, rfl, rfl, by rw [sizeLine_eq]; omega, q _ _ H (ok_strI (by rw [len_app]; omega)) hh .refl (.str _)⟩
end
end Sm
namespace Sm
open PySem PySem.Spec PyProof.Rows L2 Vd
section
variable {P : Program} {w : World} {K : PySem.W.Frag} {mg : Str → Option Value} {base : Heap}
abbrev DDraw (P : Program) (w : World) (K : PySem.W.Frag) (mg : Str → Option Value) (base : Heap) : Prop := Df P w K mg base "_law_draw" 1 ["hand", "many"] spDraw
abbrev DSome (P : Program) (w : World) (K : PySem.W.Frag) (mg : Str → Option Value) (base : Heap) : Prop := Df P w K mg base "_law_some" 2 ["hand", "things"] (spSome K)
abbrev DY (P : Program) (w : World) (K : PySem.W.Frag) (mg : Str → Option Value) (base : Heap) (x : Str) (k : Nat) (R : PyData → Prop) : Prop := Df P w K mg base x k ["hand"] (spY K R)
/-! ### _law_prime, _law_worth -/
def RP (d : PyData) : Prop := primeD d = true ∧ okD d = true
theorem scPrimeD : FnScope ["hand"] ["hand"] (defScope sPrimeD) := ⟨rfl, rfl, rfl, by decide +kernel, rfl, by decide +kernel, by decide +kernel⟩
theorem ok_primeD {f : Addr} {fd : FuncData} (F : FnP K "_law_prime" sPrimeD f fd) (M : Nm mg) (DS : DSome P w K mg base) : FnOk P w K mg base CX0 3 f fd ["hand"] (spY K RP) := by
  refine F.ok scPrimeD spY_len (fun cdv A outer s H vs Q E hr h => ?_)
  obtain ⟨a, c, rfl, hh, q⟩ := h
  refine ⟨_, PSs.nox (pss_one (ps_ret (pe_df DS hr (by decide) (pa_cons (pv 0) (pa_cons (pe_lst (pa_cons pe_int (pa_cons pe_int (pa_cons pe_int (pa_cons pe_int (pa_cons pe_int (pa_cons pe_int (pa_cons pe_int pa_nil)))))))) pa_nil))))), ?_⟩
  exact ye_some (a := a) (c := c) (K := K) (H0 := H) (R := RP) rfl (ya_cons (ye_int yi_c ⟨by decide +kernel, by decide +kernel⟩) (ya_cons (ye_int yi_c ⟨by decide +kernel, by decide +kernel⟩) (ya_cons (ye_int yi_c ⟨by decide +kernel, by decide +kernel⟩) (ya_cons (ye_int yi_c ⟨by decide +kernel, by decide +kernel⟩) (ya_cons (ye_int yi_c ⟨by decide +kernel, by decide +kernel⟩) (ya_cons (ye_int yi_c ⟨by decide +kernel, by decide +kernel⟩) (ya_cons (ye_int yi_c ⟨by decide +kernel, by decide +kernel⟩) ya_nil))))))) (by decide) (by decide) H _ hh .refl q
def RW (d : PyData) : Prop := worthD d = true ∧ okD d = true
theorem quote_ok {k : Int} (h0 : 1 ≤ k) (h1 : k ≤ 20) : RW (.str (Txt.mul ("'" : Str) k)) := by
  have e : (Txt.mul ("'" : Str) k).cps.toList = List.replicate k.toNat 39 := by
    have h := mul_one_list 39 k
    have e2 : (⟨#[39]⟩ : Str) = ("'" : Str) := by decide
    rw [e2] at h
    exact h
  have el : (Txt.mul ("'" : Str) k).length = k.toNat := by
    show (Txt.mul ("'" : Str) k).cps.size = _
    rw [← Array.length_toList, e, List.length_replicate]
  refine ⟨?_, ok_strI (by omega)⟩
  show (_ || (decide ((Txt.mul ("'" : Str) k).length ≤ 20) && sgn 32 126 _)) = true
  rw [decide_eq_true (by omega), Bool.true_and]
  refine Bool.or_eq_true_iff.mpr (.inr ?_)
  unfold sgn
  rw [e]
  exact List.all_eq_true.mpr fun x hx => by
    rw [List.eq_of_mem_replicate hx]
    rfl
theorem small_ok {i : Int} (h : i.natAbs < 2 ^ 200) : RW (.int i) := ⟨rfl, ok_intI h⟩
theorem scWorthD : FnScope ["hand", "words"] ["hand"] (defScope sWorthD) := ⟨rfl, rfl, rfl, by decide +kernel, rfl, by decide +kernel, by decide +kernel⟩
theorem p200 {n : Nat} (h : n < 1000000) : n < 2 ^ 200 := Nat.lt_trans h (by decide)
theorem ok_worthD {f : Addr} {fd : FuncData} (F : FnP K "_law_worth" sWorthD f fd) (M : Nm mg) (DD : DDraw P w K mg base) (DS : DSome P w K mg base) : FnOk P w K mg base CX0 3 f fd ["hand"] (spY K RW) := by
  refine F.ok scWorthD spY_len (fun cdv A outer s H vs Q E hr h => ?_)
  obtain ⟨a, c, rfl, hh, q⟩ := h
  refine ⟨_, PSs.nox (pss_cons (ps_set (i := 1) scWorthD.nd rfl (Or.inl rfl) (pe_lst (pa_cons pe_str (pa_cons pe_str (pa_cons pe_str (pa_cons pe_str (pa_cons pe_str (pa_cons pe_str (pa_cons pe_str (pa_cons pe_str (pa_cons pe_str (pa_cons (pe_op (r := rMulS) op_mulS pe_str (pe_op op_add pe_int (pe_df DD hr (by decide) (pa_cons (pv 0) (pa_cons pe_int pa_nil))))) pa_nil))))))))))))
      (pss_cons (ps_if (pt_cmpR op_eq (pe_df DD hr (by decide) (pa_cons (pv 0) (pa_cons pe_int pa_nil))) pe_int (nomark _)) (pss_one (ps_ret (pe_df DS hr (by decide) (pa_cons (pv 0) (pa_cons (pv 1) pa_nil))))) pss_nil)
      (pss_one (ps_ret (pe_df DS hr (by decide) (pa_cons (pv 0) (pa_cons (pe_lst (pa_cons (pe_df DD hr (by decide) (pa_cons (pv 0) (pa_cons pe_int pa_nil))) (pa_cons (pe_op op_sub (pe_df DD hr (by decide) (pa_cons (pv 0) (pa_cons pe_int pa_nil))) pe_int) (pa_cons (pe_op op_sub (pe_op op_pow pe_int pe_int) pe_int) (pa_cons (pe_op op_sub pe_int (pe_op op_pow pe_int pe_int)) (pa_cons pe_int (pa_cons (pe_op op_pow pe_int pe_int) pa_nil))))))) pa_nil))))))), ?_⟩
  dsimp only [tSeq, tAsg, gName]
  refine ld_lst (a := a) (c := c) (K := K) (H0 := H) (n := 10) (R := RW) (ya_cons (ye_str ⟨by decide +kernel, by decide +kernel⟩) (ya_cons (ye_str ⟨by decide +kernel, by decide +kernel⟩) (ya_cons (ye_str ⟨by decide +kernel, by decide +kernel⟩) (ya_cons (ye_str ⟨by decide +kernel, by decide +kernel⟩) (ya_cons (ye_str ⟨by decide +kernel, by decide +kernel⟩) (ya_cons (ye_str ⟨by decide +kernel, by decide +kernel⟩) (ya_cons (ye_str ⟨by decide +kernel, by decide +kernel⟩) (ya_cons (ye_str ⟨by decide +kernel, by decide +kernel⟩) (ya_cons (ye_str ⟨by decide +kernel, by decide +kernel⟩) (ya_cons (ye_mulS (by decide) (yd_add (j := 1) (m := 20) yi_c (yd_draw rfl yi_c (by decide) (by decide)) _ fun d d0 d1 => ⟨1 + d, rfl, by omega, by omega, quote_ok (by omega) (by omega)⟩)) ya_nil)))))))))) hh .refl (by decide) fun L1 H1 hh1 k1 l1 => ?_
  refine ⟨_, rfl, a, c, _, rfl, hh1, by decide, by decide, fun n H2 n0 n1 hh2 k2 => ⟨rfl, _, rfl, tst (fun e => ?_) fun e => ?_⟩⟩
  · exact ye_somev (a := a) (c := c) (K := K) (H0 := H2) (R := RW) rfl rfl (l1.ky k2) (by decide) (by decide) H2 _ hh2 .refl fun v d H3 r hh3 k3 hd => q v d H3 r hh3 (k1.trans (k2.trans k3)) hd
  · exact ye_some (a := a) (c := c) (K := K) (H0 := H2) (R := RW) rfl (ya_cons (ye_draw (yd_draw rfl yi_c (by decide) (by decide)) fun d d0 d1 => small_ok (p200 (by omega))) (ya_cons (yd_sub (j := 30) (m := 60) yi_c (yd_draw rfl yi_c (by decide) (by decide)) _ fun d d0 d1 => small_ok (p200 (by omega))) (ya_cons (ye_int (yi_sub (yi_pow yi_c yi_c) yi_c) ⟨by decide +kernel, by decide +kernel⟩) (ya_cons (ye_int (yi_sub yi_c (yi_pow yi_c yi_c)) ⟨by decide +kernel, by decide +kernel⟩) (ya_cons (ye_int yi_c ⟨by decide +kernel, by decide +kernel⟩) (ya_cons (ye_int (yi_pow yi_c yi_c) ⟨by decide +kernel, by decide +kernel⟩) ya_nil)))))) (by decide) (by decide) H2 _ hh2 .refl fun v d H3 r hh3 k3 hd => q v d H3 r hh3 (k1.trans (k2.trans k3)) hd
/-! ### _law_fact -/
def RF (d : PyData) : Prop := factD d = true ∧ okD d = true
def RN (d : PyData) : Prop := nameD d = true ∧ okD d = true
def RT (d : PyData) : Prop := textD d = true ∧ okD d = true
def wv : PyData → V
  | .int i => .int i
  | .str x => .str x
  | _ => .non
theorem rw_wv {a : Addr} {H : Hp} {v : V} {d : PyData} (r : RW d) (h : Dv a K H v d) : v = wv d := by
  rcases Bool.or_eq_true_iff.mp r.1 with e | e
  · obtain ⟨i, rfl⟩ := intD_of e
    exact dd_int h
  · cases d with
    | str x => exact dd_str h
    | _ => cases e
theorem wv_dv {a : Addr} {H : Hp} {d : PyData} (r : RW d) : Dv a K H (wv d) d := by
  rcases Bool.or_eq_true_iff.mp r.1 with e | e
  · obtain ⟨i, rfl⟩ := intD_of e
    exact .int i
  · cases d with
    | str x => exact .str x
    | _ => cases e
theorem wv_all {a : Addr} {H : Hp} : ∀ {ds : List PyData}, (∀ d ∈ ds, RW d) → DvAll a K H (ds.map wv) ds
  | [], _ => .nil
  | d :: r, h => .cons (wv_dv (h d List.mem_cons_self)) (wv_all fun x hx => h x (List.mem_cons_of_mem _ hx))
theorem rf_rule {t x : PyData} (h : RN t) (k : RT x) : RF (.tuple [.str "rule", .tuple [t, x]]) := by
  refine ⟨?_, ok_tuple (by show 2 ≤ 4000; decide) (ok_all fun d hd => ?_)⟩
  · show (nameD (.str "rule") && (if isR (.str "rule") = true then ruleD (.tuple [t, x]) else rowD (.tuple [t, x]))) = true
    rw [show nameD (.str "rule") = true from by decide +kernel, show isR (.str "rule") = true from by decide +kernel, if_pos rfl, rule2, h.1, k.1]
    rfl
  · rcases List.mem_cons.mp hd with rfl | hd
    · exact (by decide +kernel : okD (.str "rule") = true)
    · rw [List.mem_singleton.mp hd]
      exact ok_tuple (by show 2 ≤ 4000; decide) (ok_all fun d hd => by
        rcases List.mem_cons.mp hd with rfl | hd
        · exact h.2
        · rw [List.mem_singleton.mp hd]
          exact k.2)
def names : List Str := ["a", "b", "b", "bag", "q", "zz"]
def RM (d : PyData) : Prop := ∃ x : Str, d = .str x ∧ x ∈ names
theorem rf_row {x : Str} {ds : List PyData} (h : x ∈ names) (h0 : 1 ≤ ds.length) (h1 : ds.length ≤ 5) (k : ∀ d ∈ ds, RW d) : RF (.tuple [.str x, .tuple ds]) := by
  have n1 : nameD (.str x) = true := (by decide +kernel : ∀ x ∈ names, nameD (.str x) = true) x h
  have n2 : isR (.str x) = false := (by decide +kernel : ∀ x ∈ names, isR (.str x) = false) x h
  have n3 : okD (.str x) = true := (by decide +kernel : ∀ x ∈ names, okD (.str x) = true) x h
  refine ⟨?_, ok_tuple (by show 2 ≤ 4000; decide) (ok_all fun d hd => ?_)⟩
  · show (nameD (.str x) && (if isR (.str x) = true then ruleD (.tuple ds) else rowD (.tuple ds))) = true
    rw [n1, n2, if_neg Bool.false_ne_true, Bool.true_and]
    show ((decide ((1 : Int) ≤ (ds.length : Int)) && decide ((ds.length : Int) ≤ 5)) && ds.all worthD) = true
    rw [decide_eq_true (by omega), decide_eq_true (by omega), Bool.true_and, Bool.true_and]
    exact List.all_eq_true.mpr fun d hd => (k d hd).1
  · rcases List.mem_cons.mp hd with rfl | hd
    · exact n3
    · rw [List.mem_singleton.mp hd]
      exact ok_tuple (by omega) (ok_all fun d hd => (k d hd).2)
theorem scFactD : FnScope ["hand", "texts", "name", "many", "place"] ["hand"] (defScope sFactD) := ⟨rfl, rfl, rfl, by decide +kernel, rfl, by decide +kernel, by decide +kernel⟩
def kvsOf (q : Int) : List (Key × V) := [(Sum.inr "a", .int 1), (Sum.inr "b", .int 2), (Sum.inr "bag", .int 3), (Sum.inr "q", .int (1 + q)), (Sum.inr "zz", .int 2)]
theorem kvs_merge (q : Int) : mergeK [] (kvsOf q) = kvsOf q := rfl
theorem kvs_get {x : Str} (h : x ∈ names) {q : Int} (q0 : 0 ≤ q) (q1 : q < 5) : ∃ m : Int, 1 ≤ m ∧ m ≤ 5 ∧ valV (kvsOf q) (Sum.inr x) = some (.int m) := by
  unfold names at h
  simp only [List.mem_cons, List.not_mem_nil, or_false] at h
  rcases h with rfl | rfl | rfl | rfl | rfl | rfl
  · exact ⟨1, by decide, by decide, rfl⟩
  · exact ⟨2, by decide, by decide, rfl⟩
  · exact ⟨2, by decide, by decide, rfl⟩
  · exact ⟨3, by decide, by decide, rfl⟩
  · exact ⟨1 + q, by omega, by omega, rfl⟩
  · exact ⟨2, by decide, by decide, rfl⟩
theorem ok_factD {f : Addr} {fd : FuncData} (F : FnP K "_law_fact" sFactD f fd) (M : Nm mg) (DD : DDraw P w K mg base) (DS : DSome P w K mg base) (DW : DY P w K mg base "_law_worth" 3 RW) : FnOk P w K mg base CX0 4 f fd ["hand"] (spY K RF) := by
  refine F.ok scFactD spY_len (fun cdv A outer s H vs Q E hr h => ?_)
  obtain ⟨a, c, rfl, hh, q⟩ := h
  have hu : (A.deeper (envOfC "_law_fact" (defScope sFactD) s.heap.objs.size f cdv)).units + 1 < cLine := by
    have := hr.units
    omega
  refine ⟨_, PSs.nox (pss_cons (ps_if (pt_cmpR op_eq (pe_df DD hr (by decide) (pa_cons (pv 0) (pa_cons pe_int pa_nil))) pe_int (nomark _)) (pss_cons (ps_set (i := 1) scFactD.nd rfl (Or.inl rfl) (pe_lst (pa_cons pe_str (pa_cons pe_str (pa_cons pe_str (pa_cons pe_str pa_nil))))))
      (pss_one (ps_ret (pe_tup (pa_cons pe_str (pa_cons (pe_tup (pa_cons (pe_df DS hr (by decide) (pa_cons (pv 0) (pa_cons (pe_lst (pa_cons pe_str (pa_cons pe_str (pa_cons pe_str (pa_cons pe_str pa_nil))))) pa_nil))) (pa_cons (pe_df DS hr (by decide) (pa_cons (pv 0) (pa_cons (pv 1) pa_nil))) pa_nil))) pa_nil)))))) pss_nil)
      (pss_cons (ps_set (i := 2) scFactD.nd rfl (Or.inl rfl) (pe_df DS hr (by decide) (pa_cons (pv 0) (pa_cons (pe_lst (pa_cons pe_str (pa_cons pe_str (pa_cons pe_str (pa_cons pe_str (pa_cons pe_str (pa_cons pe_str pa_nil))))))) pa_nil))))
      (pss_cons (ps_set (i := 3) scFactD.nd rfl (Or.inl rfl) (pe_dget hu (pe_disp (pps_cons pe_str pe_int (pps_cons pe_str pe_int (pps_cons pe_str pe_int (pps_cons pe_str (pe_op op_add pe_int (pe_df DD hr (by decide) (pa_cons (pv 0) (pa_cons pe_int pa_nil)))) (pps_cons pe_str pe_int pps_nil))))) (by rfl) (by rfl) (by exact List.cons_ne_nil _ _) (by decide)) (pv 2) (fun _ _ => rfl)))
      (pss_one (ps_ret (pe_tup (pa_cons (pv 2) (pa_cons (pe_callTy call_tuple_of (by rfl) M.tuple (by decide +kernel) (pa_cons (pe_lc (own := [("place", 4)]) (g := gName 4) (tt := tYes) (by rfl) scFactD.nd (pi_range1 (by rfl) M.range (pa_cons (pv 3) pa_nil)) (blkOk_by (N := ["hand", "texts", "name", "many", "place"]) (sc := defScope sFactD) (by decide +kernel)) (fun _ _ _ _ _ => pg_name (i := 4) scFactD.nd rfl (Or.inl rfl)) (fun _ _ _ _ _ => pts_nil) (fun _ _ _ _ _ => (pe_df DW hr (by decide) (pa_cons (pv 0) pa_nil)))) pa_nil)) pa_nil)))))))), ?_⟩
  refine ⟨_, rfl, a, c, _, rfl, hh, by decide, by decide, fun n H1 n0 n1 hh1 k1 => ⟨rfl, _, rfl, tst (fun e => ?_) fun e => ?_⟩⟩
  · dsimp only [tSeq, tAsg, gName]
    refine ld_lst (a := a) (c := c) (K := K) (H0 := H1) (n := 4) (R := RT) (ya_cons (ye_str ⟨by decide +kernel, by decide +kernel⟩) (ya_cons (ye_str ⟨by decide +kernel, by decide +kernel⟩) (ya_cons (ye_str ⟨by decide +kernel, by decide +kernel⟩) (ya_cons (ye_str ⟨by decide +kernel, by decide +kernel⟩) ya_nil)))) hh1 .refl (by decide) fun L1 H2 hh2 k2 l2 => ?_
    refine ye_some (a := a) (c := c) (K := K) (H0 := H2) (R := RN) rfl (ya_cons (ye_str ⟨by decide +kernel, by decide +kernel⟩) (ya_cons (ye_str ⟨by decide +kernel, by decide +kernel⟩) (ya_cons (ye_str ⟨by decide +kernel, by decide +kernel⟩) (ya_cons (ye_str ⟨by decide +kernel, by decide +kernel⟩) ya_nil)))) (by decide) (by decide) H2 _ hh2 .refl fun v1 d1 H3 r1 hh3 k3 hd1 => ?_
    refine ye_somev (a := a) (c := c) (K := K) (H0 := H3) (R := RT) rfl rfl (l2.ky k3) (by decide) (by decide) H3 _ hh3 .refl fun v2 d2 H4 r2 hh4 k4 hd2 => ?_
    refine ⟨by show 2 ≤ sizeLine; rw [sizeLine_eq]; decide, fun p hp => ⟨by show 2 ≤ sizeLine; rw [sizeLine_eq]; decide, fun p2 hp2 => ?_⟩⟩
    have t1 := tris_new (ds := [d1, d2]) hh4.live hp (.cons (hd1.ky k4) (.cons hd2 .nil))
    have hh5 := hh4.same (same_up (o := .tup [v1, v2]) hp)
    have t2 := tris_new (ds := [.str "rule", .tuple [d1, d2]]) hh5.live hp2 (.cons (.str _) (.cons t1 .nil))
    exact q _ _ _ (rf_rule r1 r2) (hh5.same (same_up hp2)) (k1.trans (k2.trans (k3.trans (k4.trans ((keep_same (same_up hp)).trans (keep_same (same_up hp2))))))) t2
  · refine ye_some (a := a) (c := c) (K := K) (H0 := H1) (R := RM) rfl (ya_cons (ye_str ⟨_, rfl, by decide +kernel⟩) (ya_cons (ye_str ⟨_, rfl, by decide +kernel⟩) (ya_cons (ye_str ⟨_, rfl, by decide +kernel⟩) (ya_cons (ye_str ⟨_, rfl, by decide +kernel⟩) (ya_cons (ye_str ⟨_, rfl, by decide +kernel⟩) (ya_cons (ye_str ⟨_, rfl, by decide +kernel⟩) ya_nil)))))) (by decide) (by decide) H1 _ hh1 .refl fun v d H2 r hh2 k2 hd => ?_
    obtain ⟨x, rfl, hx⟩ := r
    cases dd_str hd
    refine fun p hp => ?_
    have np := hh2.live.ne hp
    refine ⟨_, rfl, a, c, _, rfl, hh2.same (same_up hp), by decide, by decide, fun n H3 n0 n1 hh3 k3 => ⟨_, _, rfl, rfl, k3 _ _ np upd_same, kvsOf n, rfl, (by show 5 ≤ 15; decide), ?_⟩⟩
    rw [kvs_merge]
    have s4 : Keep a H2 (upd H3 p (.dK (kvsOf n))) := fun b o nb e => by
      have e3 := k3 b o nb (same_up hp b o e)
      rw [upd_ne (ne_of_none e hp)]
      exact e3
    have hh4 : HandC (upd H3 p (.dK (kvsOf n))) a c := hh3.set np (fun z => by
      obtain ⟨cs, i, b, sd, m, y⟩ := hh3
      have h1 := y.cells
      rw [← z, k3 _ _ np upd_same] at h1
      cases h1)
    have a4 : (upd H3 p (.dK (kvsOf n))) p = some (.dK (kvsOf n)) := upd_same
    generalize upd H3 p (.dK (kvsOf n)) = H4 at s4 hh4 a4 ⊢
    obtain ⟨m, m0, m1, hm⟩ := kvs_get hx n0 n1
    refine ⟨_, rfl, p, .int m, rfl, by have := DGet.k (k := Sum.inr x) a4; rw [hm] at this; exact this, ?_⟩
    refine ⟨_, rfl, _, rfl, m, rfl, by omega, by omega, fun D hD => ?_⟩
    have nDa := hh4.live.ne hD
    have nDc := hh4.cne hD
    refine lc_range (n := m.toNat) (fun i H' => HandC H' a c ∧ Keep a H4 H' ∧ ∃ ds : List PyData, H' D = some (.lst (ds.map wv)) ∧ ds.length = i ∧ ∀ d ∈ ds, RW d) ⟨hh4.same (same_up hD), keep_same (same_up hD), [], upd_same, rfl, fun _ z => nomatch z⟩ (fun i H' hi z => ?_) (fun H' z => ?_)
    · obtain ⟨hh5, k5, ds, eD, el, en⟩ := z
      refine ⟨rfl, _, rfl, a, c, rfl, hh5, fun v d H6 r hh6 k6 hd => ?_⟩
      have eD6 := k6 _ _ nDa eD
      refine ⟨_, eD6, by rw [List.length_map, el, sizeLine_eq]; omega, hh6.set nDa nDc, fun b o nb e => by rw [upd_ne (ne_of_none e hD)]; exact (k5.trans k6) b o nb e, ds ++ [d], by rw [upd_same, List.map_append, rw_wv r hd]; rfl, by rw [List.length_append, el]; rfl, fun y hy => ?_⟩
      rcases List.mem_append.mp hy with hy | hy
      · exact en y hy
      · rw [List.mem_singleton.mp hy]
        exact r
    · obtain ⟨hh5, k5, ds, eD, el, en⟩ := z
      refine ⟨D, _, rfl, .inl ⟨SqL.of eD, fun l hl => ⟨by show 2 ≤ sizeLine; rw [sizeLine_eq]; decide, fun p2 hp2 => ?_⟩⟩⟩
      have t1 := tris_new (ds := ds) (a := a) (K := K) hh5.live hl (wv_all en)
      have hh6 := hh5.same (same_up (o := .tup (ds.map wv)) hl)
      have t2 := tris_new (ds := [.str x, .tuple ds]) hh6.live hp2 (.cons (.str _) (.cons t1 .nil))
      exact q _ _ _ (rf_row hx (by omega) (by omega) en) (hh6.same (same_up hp2)) (k1.trans (k2.trans (s4.trans (k5.trans ((keep_same (same_up hl)).trans (keep_same (same_up hp2))))))) t2
/-! ### _law_text -/
end
end Sm
/-! Order and equality of keys: whole numbers, texts, tuples of such. -/
namespace Ky
open PySem PySem.SeqAt PySem.AutoSeq1 PySem.MeetsSeq PySem.MeetsSeq2 PySem.MeetsSeq3
/-- x comes ahead of y by `<` -/
def LtAt (A : Around) (s : Shared) (x y : Value) (b : Bool) : Prop := ∀ (P : Program) (w : World) (Er Qr : Value → Shared → Prop), Qr (.bool b) s → wpAny (model P w) A (richCompare .Lt x y) Qr Er s
/-- two rows of values: the first place where they are unlike decides -/
inductive Lx (A : Around) (s : Shared) : List Value → List Value → Bool → Prop
  | done {ys : List Value} : Lx A s [] ys (!ys.isEmpty)
  | short {x : Value} {xs : List Value} : Lx A s (x :: xs) [] false
  | alike {x y : Value} {xs ys : List Value} {b : Bool} : EqAt A s x y true → Lx A s xs ys b → Lx A s (x :: xs) (y :: ys) b
  | apart {x y : Value} {xs ys : List Value} {b : Bool} : EqAt A s x y false → LtAt A s x y b → Lx A s (x :: xs) (y :: ys) b
theorem lt_meets (p q : Addr) (us ws : Array Value) (e1 e2 : Nat) (f1 f2 : Option Addr) (g1 g2 : Array (Option Value)) (k : Bool) :
    Meets (Builtin.«tuple.__lt__» ⟨[.ref p, .ref q], []⟩) (fun A R s => s.heap.get? p = some { cls := .type "tuple", dict := f1, data := .seq us e1, slots := g1 } ∧
      s.heap.get? q = some { cls := .type "tuple", dict := f2, data := .seq ws e2, slots := g2 } ∧ Lx A.in1 s us.toList ws.toList k ∧ R (.ok (.ret (.bool k))) s) :=
  .of_wp fun P w A R s hyp => by
    obtain ⟨hh, hg, hd, ht, ho⟩ := s
    obtain ⟨k1, k2, kx, kr⟩ := hyp
    have sub := AutoSeq1.sub_tuple_tuple
    wp_walk using wpAny_loadPart' k1, wpAny_loadPart' k2, wpAny_forIn_list _ (fun rst acc s' => acc.1 = none ∧ s' = ⟨hh, hg, hd, ht, ho⟩ ∧
      ∃ (l m : List Value), rst = l.zip m ∧ Lx A.in1 ⟨hh, hg, hd, ht, ho⟩ l m k ∧ l.length + ws.size = m.length + us.size) _
    case turn =>
      rintro ⟨y, x⟩ rst acc s' ⟨hacc, rfl, l, m, hz, hL, hn⟩
      cases hL with
      | done =>
        rw [List.zip_nil_left] at hz
        cases hz
      | short =>
        rw [List.zip_nil_right] at hz
        cases hz
      | alike he hl =>
        rw [List.zip_cons_cons] at hz
        injection hz with hz1 hz2
        injection hz1 with hz3 hz4
        subst hz3 hz4
        refine wpAny_bind (he P w _ _ ?_)
        wp_walk
        exact ⟨rfl, rfl, _, _, hz2, hl, by simp only [List.length_cons] at hn; omega⟩
      | apart he hl =>
        rw [List.zip_cons_cons] at hz
        injection hz with hz1 hz2
        injection hz1 with hz3 hz4
        subst hz3 hz4
        have hl2 := fun (Er Qr : Value → Shared → Prop) (hq : Qr (.bool _) _) => hl P w Er Qr hq
        refine wpAny_bind (he P w _ _ ?_)
        generalize richCompare .Lt y x = rc at hl2 ⊢
        wp_walk
        refine hl2 _ _ ?_
        wp_walk
        exact ⟨_, rfl, kr⟩
    case fin =>
      rintro ⟨c1, c2⟩ s' ⟨hacc, rfl, l, m, hz, hL, hn⟩
      simp only at hacc
      subst hacc
      have hk : decide (us.size < ws.size) = k := by
        cases hL with
        | done =>
          rw [Bool.eq_iff_iff, decide_eq_true_eq]
          cases m with
          | nil =>
            simp only [List.length_nil] at hn
            simp
            omega
          | cons _ _ =>
            simp only [List.length_nil, List.length_cons] at hn
            simp
            omega
        | short =>
          simp only [List.length_nil, List.length_cons] at hn
          exact decide_eq_false (by omega)
        | alike _ _ => cases hz
        | apart _ _ => cases hz
      wp_walk
      exact ⟨_, rfl, by simpa [Builtin.Tuple.tupleCompareSizes, hk] using kr⟩
    case h => exact ⟨rfl, rfl, _, _, rfl, kx, by simp [Nat.add_comm]⟩
theorem lt_tup {A : Around} {s : Shared} {p q : Addr} {us ws : Array Value} {k : Bool} (hp : s.heap.IsTuple p us) (hq : s.heap.IsTuple q ws) (hu : A.units < cLine) (h : Lx A.in1 s us.toList ws.toList k) : LtAt A s (.ref p) (.ref q) k := fun P w Er Qr hQ => by
  obtain ⟨⟨c1, f1, d1, g1⟩, o1, c1', n1, t1⟩ := id hp
  obtain ⟨⟨c2, f2, d2, g2⟩, o2, c2', n2, t2⟩ := id hq
  simp only at c1' t1 c2' t2
  subst c1' t1 c2' t2
  refine richCompare_meets_room (op := .Lt) ⟨_, o1, rfl⟩ ⟨_, o2, rfl⟩ F.slot_tuple_lt F.entry_tuple_lt (F.args_tuple_lt_2 _ _) (lt_meets p q us ws n1 n2 f1 f2 g1 g2 k) ⟨o1, o2, h, ?_⟩ hu
  exact (show Value.bool k ≠ Value.notImplemented ∧ Qr (.bool k) s from ⟨(fun z => nomatch z), hQ⟩)
end Ky
/-! Keys as data: nested tuples of whole numbers and texts; ==, <. -/
namespace Sm
open PySem PySem.Spec PyProof.Rows L2 Vd
mutual
def keyT : PyData → Bool
  | .int _ => true
  | .str _ => true
  | .tuple ds => keyTs ds
  | _ => false
def keyTs : List PyData → Bool
  | [] => true
  | d :: r => keyT d && keyTs r
end
mutual
def dpD : PyData → Nat
  | .tuple ds => dpDs ds + 1
  | _ => 0
def dpDs : List PyData → Nat
  | [] => 0
  | d :: r => max (dpD d) (dpDs r)
end
mutual
def eqD : PyData → PyData → Bool
  | .int i, e => match e with
    | .int j => i == j
    | _ => false
  | .str x, e => match e with
    | .str y => x == y
    | _ => false
  | .tuple ds, e => match e with
    | .tuple es => eqDs ds es
    | _ => false
  | _, _ => false
def eqDs : List PyData → List PyData → Bool
  | [], es => es.isEmpty
  | d :: r, es => match es with
    | e :: q => eqD d e && eqDs r q
    | [] => false
end
mutual
theorem eqD_of : ∀ {d e : PyData}, eqD d e = true → d = e
  | .int i, .int j, h => by
    unfold eqD at h
    rw [eq_of_beq h]
  | .str i, .str j, h => by
    unfold eqD at h
    rw [eq_of_beq h]
  | .tuple ds, .tuple es, h => by
    unfold eqD at h
    rw [eqDs_of h]
  | .int _, .none, h | .int _, .bool _, h | .int _, .str _, h | .int _, .list _, h | .int _, .tuple _, h | .int _, .dict _, h
  | .str _, .none, h | .str _, .bool _, h | .str _, .int _, h | .str _, .list _, h | .str _, .tuple _, h | .str _, .dict _, h
  | .tuple _, .none, h | .tuple _, .bool _, h | .tuple _, .int _, h | .tuple _, .list _, h | .tuple _, .str _, h | .tuple _, .dict _, h
  | .none, _, h | .bool _, _, h | .list _, _, h | .dict _, _, h => by
    unfold eqD at h
    cases h
theorem eqDs_of : ∀ {ds es : List PyData}, eqDs ds es = true → ds = es
  | [], [], _ => rfl
  | [], _ :: _, h => by
    unfold eqDs at h
    cases h
  | _ :: _, [], h => by
    unfold eqDs at h
    cases h
  | d :: r, e :: q, h => by
    unfold eqDs at h
    obtain ⟨h1, h2⟩ := Bool.and_eq_true_iff.mp h
    rw [eqD_of h1, eqDs_of h2]
end
mutual
theorem eqD_refl : ∀ {d : PyData}, keyT d = true → eqD d d = true
  | .int i, _ => by
    unfold eqD
    exact beq_self_eq_true i
  | .str i, _ => by
    unfold eqD
    exact beq_self_eq_true i
  | .tuple ds, h => by
    unfold keyT at h
    unfold eqD
    exact eqDs_refl h
  | .none, h | .bool _, h | .list _, h | .dict _, h => by
    unfold keyT at h
    cases h
theorem eqDs_refl : ∀ {ds : List PyData}, keyTs ds = true → eqDs ds ds = true
  | [], _ => by
    unfold eqDs
    rfl
  | d :: r, h => by
    unfold keyTs at h
    obtain ⟨h1, h2⟩ := Bool.and_eq_true_iff.mp h
    unfold eqDs
    show (eqD d d && eqDs r r) = true
    rw [eqD_refl h1, eqDs_refl h2]
    rfl
end
theorem eqD_iff {d e : PyData} (h : keyT d = true) : eqD d e = true ↔ d = e := ⟨eqD_of, fun k => k ▸ eqD_refl h⟩
mutual
def ltD : PyData → PyData → Bool
  | .int i, e => match e with
    | .int j => decide (i < j)
    | _ => false
  | .str x, e => match e with
    | .str y => decide (x.cps.toList < y.cps.toList)
    | _ => false
  | .tuple ds, e => match e with
    | .tuple es => ltDs ds es
    | _ => false
  | _, _ => false
def ltDs : List PyData → List PyData → Bool
  | [], es => !es.isEmpty
  | d :: r, es => match es with
    | e :: q => if eqD d e = true then ltDs r q else ltD d e
    | [] => false
end
mutual
/-- `<` of the two is defined -/
def canD : PyData → PyData → Bool
  | .int _, e => match e with
    | .int _ => true
    | _ => false
  | .str _, e => match e with
    | .str _ => true
    | _ => false
  | .tuple ds, e => match e with
    | .tuple es => canDs ds es
    | _ => false
  | _, _ => false
def canDs : List PyData → List PyData → Bool
  | [], _ => true
  | d :: r, es => match es with
    | e :: q => if eqD d e = true then canDs r q else canD d e
    | [] => true
end
/-! ### one address, one thing -/
theorem tupN_one {H : Hp} {p : Addr} {xs ys : List V} (h : TupN H p xs) (k : TupN H p ys) : xs = ys := by
  rcases h with h | ⟨o, h⟩ <;> rcases k with k | ⟨u, k⟩ <;> rw [h] at k <;> injection k with k <;> first | (injection k with k1 k2; injection k2) | (injection k)
mutual
theorem dd_one {K : PySem.W.Frag} {H : Hp} : ∀ {d e : PyData} {v : V}, keyT d = true → keyT e = true → Dd K H v d → Dd K H v e → d = e
  | .int i, e, v, _, ke, h, k => by
    cases h
    cases k
    rfl
  | .str i, e, v, _, ke, h, k => by
    cases h
    cases k
    rfl
  | .tuple ds, e, v, kd, ke, h, k => by
    cases h with
    | tup h1 h2 =>
      cases k with
      | tup k1 k2 =>
        cases tupN_one h1 k1
        unfold keyT at kd ke
        rw [dds_one kd ke h2 k2]
      | lst k1 k2 =>
        unfold keyT at ke
        cases ke
      | dct k1 k2 =>
        unfold keyT at ke
        cases ke
  | .none, _, _, h, _, _, _ | .bool _, _, _, h, _, _, _ | .list _, _, _, h, _, _, _ | .dict _, _, _, h, _, _, _ => by
    unfold keyT at h
    cases h
theorem dds_one {K : PySem.W.Frag} {H : Hp} : ∀ {ds es : List PyData} {vs : List V}, keyTs ds = true → keyTs es = true → DdAll K H vs ds → DdAll K H vs es → ds = es
  | [], es, vs, _, _, h, k => by
    cases h
    cases k
    rfl
  | d :: r, es, vs, kd, ke, h, k => by
    cases h with
    | cons h1 h2 =>
      cases k with
      | cons k1 k2 =>
        unfold keyTs at kd ke
        obtain ⟨a1, a2⟩ := Bool.and_eq_true_iff.mp kd
        obtain ⟨b1, b2⟩ := Bool.and_eq_true_iff.mp ke
        rw [dd_one a1 b1 h1 k1, dds_one a2 b2 h2 k2]
end
end Sm
/-! Keys in the heap: what == and < of them give. -/
namespace Sm
open PySem PySem.Spec PyProof.Rows L2 Vd
theorem ea_ref {A : Around} {s : Shared} {p q : Addr} {k : Bool} (h : p = q → k = true) (r : SeqAt.RcAt A s (.ref p) (.ref q) k) : SeqAt.EqAt A s (.ref p) (.ref q) k := fun prog w E Q z => by
  unfold eqBool
  refine wpAny_holding ?_
  refine wpAny_ite_split (fun hab => ?_) (fun _ => ?_)
  · have e : p = q := by
      have := eq_of_beq hab
      injection this
    rw [h e] at z
    exact wpAny_pure (M := model prog w) (E := E) z
  · exact wpAny_bind (r prog w E _ (wpAny_truthy_bool z))
def eqI (ds es : List PyData) (j : Nat) : Bool := match ds[j]?, es[j]? with
  | some d, some e => eqD d e
  | _, _ => false
theorem eqI_all : ∀ (ds es : List PyData), ((List.range (min ds.length es.length)).all (eqI ds es) && ds.length == es.length) = eqDs ds es
  | [], [] => by
    unfold eqDs
    rfl
  | [], e :: q => by
    unfold eqDs
    rfl
  | d :: r, [] => by
    unfold eqDs
    rfl
  | d :: r, e :: q => by
    have ih := eqI_all r q
    unfold eqDs
    show _ = (eqD d e && eqDs r q)
    rw [← ih, List.length_cons, List.length_cons, Nat.succ_min_succ, List.range_succ_eq_map, List.all_cons, List.all_map]
    have h1 : eqI (d :: r) (e :: q) 0 = eqD d e := rfl
    have h2 : (eqI (d :: r) (e :: q) ∘ Nat.succ) = eqI r q := by
      funext j
      unfold eqI
      simp
    rw [h1, h2, Bool.and_assoc]
    congr 2
    rw [Bool.eq_iff_iff]
    simp
section
variable {X : Cx} {pins : List (Addr × Obj)} {σ : L2.St} {H : Hp} {s : Shared}
mutual
theorem ea_run (I : Inv X pins σ H s) : ∀ {d e : PyData} {v u : V} {a b : Value} {A : Around}, keyT d = true → keyT e = true → Dd X.K H v d → Dd X.K H u e → RelV v a → RelV u b → A.units + dpD d < cLine → A.units + dpD e < cLine → SeqAt.EqAt A s a b (eqD d e)
  | .int i, .int j, v, u, a, b, A, kd, ke, hv, hu, ra, rb, l1, l2 => by
    cases hv
    cases hu
    obtain ⟨t, rfl⟩ := ra
    obtain ⟨t', rfl⟩ := rb
    unfold eqD
    exact SeqAt.EqAt.int_int i t j t'
  | .int i, .str y, v, u, a, b, A, kd, ke, hv, hu, ra, rb, l1, l2 => by
    cases hv
    cases hu
    obtain ⟨t, rfl⟩ := ra
    obtain ⟨t', rfl⟩ := rb
    unfold eqD
    exact SeqAt.EqAt.int_str i t y t'
  | .int i, .tuple es, v, u, a, b, A, kd, ke, hv, hu, ra, rb, l1, l2 => by
    cases hv
    obtain ⟨t, rfl⟩ := ra
    cases hu with
    | tup h1 h2 =>
      cases rb
      obtain ⟨its, r, pl, _⟩ := I.tuple (TupN.sq (K := X.K) h1)
      unfold eqD
      exact SeqAt.EqAt.int_tuple i t pl (by omega)
  | .str x, .int j, v, u, a, b, A, kd, ke, hv, hu, ra, rb, l1, l2 => by
    cases hv
    cases hu
    obtain ⟨t, rfl⟩ := ra
    obtain ⟨t', rfl⟩ := rb
    unfold eqD
    exact SeqAt.EqAt.str_int x t j t'
  | .str x, .str y, v, u, a, b, A, kd, ke, hv, hu, ra, rb, l1, l2 => by
    cases hv
    cases hu
    obtain ⟨t, rfl⟩ := ra
    obtain ⟨t', rfl⟩ := rb
    unfold eqD
    exact SeqAt.EqAt.str_str x t y t'
  | .str x, .tuple es, v, u, a, b, A, kd, ke, hv, hu, ra, rb, l1, l2 => by
    cases hv
    obtain ⟨t, rfl⟩ := ra
    cases hu with
    | tup h1 h2 =>
      cases rb
      obtain ⟨its, r, pl, _⟩ := I.tuple (TupN.sq (K := X.K) h1)
      unfold eqD
      exact SeqAt.EqAt.str_tuple x t pl (by omega)
  | .tuple ds, .int j, v, u, a, b, A, kd, ke, hv, hu, ra, rb, l1, l2 => by
    cases hu
    obtain ⟨t, rfl⟩ := rb
    cases hv with
    | tup h1 h2 =>
      cases ra
      obtain ⟨its, r, pl, _⟩ := I.tuple (TupN.sq (K := X.K) h1)
      unfold eqD
      exact SeqAt.EqAt.tuple_int j t pl (by omega)
  | .tuple ds, .str y, v, u, a, b, A, kd, ke, hv, hu, ra, rb, l1, l2 => by
    cases hu
    obtain ⟨t, rfl⟩ := rb
    cases hv with
    | tup h1 h2 =>
      cases ra
      obtain ⟨its, r, pl, _⟩ := I.tuple (TupN.sq (K := X.K) h1)
      unfold eqD
      exact SeqAt.EqAt.tuple_str y t pl (by omega)
  | .tuple ds, .tuple es, v, u, a, b, A, kd, ke, hv, hu, ra, rb, l1, l2 => by
    have whole : v = u → eqD (.tuple ds) (.tuple es) = true := fun e => by
      subst e
      rw [dd_one kd ke hv hu]
      exact eqD_refl ke
    cases hv with
    | @tup p xs _ h1 h2 =>
      cases hu with
      | @tup q ys _ g1 g2 =>
        cases ra
        cases rb
        obtain ⟨its, r, pl, _⟩ := I.tuple (TupN.sq (K := X.K) h1)
        obtain ⟨its2, r2, pl2, _⟩ := I.tuple (TupN.sq (K := X.K) g1)
        refine ea_ref (fun e => whole (by rw [e])) ?_
        unfold keyT at kd ke
        unfold dpD at l1 l2
        have n1 : its.length = ds.length := by rw [← r.length]; exact dall_len h2
        have n2 : its2.length = es.length := by rw [← r2.length]; exact dall_len g2
        have key := SeqAt.RcAt.tuples (A := A) (e := eqI ds es) pl pl2 (by omega) (fun j j1 j2 => by
          have z := eas_run I (A := A.in1) kd ke h2 g2 r r2 (by show A.units + 1 + dpDs ds < cLine; omega) (by show A.units + 1 + dpDs es < cLine; omega) j (by simpa using j1) (by simpa using j2)
          simpa using z)
        rw [List.size_toArray, List.size_toArray, n1, n2, eqI_all] at key
        unfold eqD
        exact key
  | .none, _, _, _, _, _, _, h, _, _, _, _, _, _, _ | .bool _, _, _, _, _, _, _, h, _, _, _, _, _, _, _ | .list _, _, _, _, _, _, _, h, _, _, _, _, _, _, _ | .dict _, _, _, _, _, _, _, h, _, _, _, _, _, _, _
  | .int _, .none, _, _, _, _, _, _, h, _, _, _, _, _, _ | .int _, .bool _, _, _, _, _, _, _, h, _, _, _, _, _, _ | .int _, .list _, _, _, _, _, _, _, h, _, _, _, _, _, _ | .int _, .dict _, _, _, _, _, _, _, h, _, _, _, _, _, _
  | .str _, .none, _, _, _, _, _, _, h, _, _, _, _, _, _ | .str _, .bool _, _, _, _, _, _, _, h, _, _, _, _, _, _ | .str _, .list _, _, _, _, _, _, _, h, _, _, _, _, _, _ | .str _, .dict _, _, _, _, _, _, _, h, _, _, _, _, _, _
  | .tuple _, .none, _, _, _, _, _, _, h, _, _, _, _, _, _ | .tuple _, .bool _, _, _, _, _, _, _, h, _, _, _, _, _, _ | .tuple _, .list _, _, _, _, _, _, _, h, _, _, _, _, _, _ | .tuple _, .dict _, _, _, _, _, _, _, h, _, _, _, _, _, _ => by
    unfold keyT at h
    cases h
theorem eas_run (I : Inv X pins σ H s) : ∀ {ds es : List PyData} {vs us : List V} {as bs : List Value} {A : Around}, keyTs ds = true → keyTs es = true → DdAll X.K H vs ds → DdAll X.K H us es → Vals vs as → Vals us bs → A.units + dpDs ds < cLine → A.units + dpDs es < cLine →
    ∀ j (h1 : j < as.length) (h2 : j < bs.length), SeqAt.EqAt A s as[j] bs[j] (eqI ds es j)
  | [], es, vs, us, as, bs, A, kd, ke, hv, hu, ra, rb, l1, l2, j, h1, h2 => by
    cases hv
    cases ra
    exact absurd h1 (by simp)
  | d :: r, [], vs, us, as, bs, A, kd, ke, hv, hu, ra, rb, l1, l2, j, h1, h2 => by
    cases hu
    cases rb
    exact absurd h2 (by simp)
  | d :: r, e :: q, vs, us, as, bs, A, kd, ke, hv, hu, ra, rb, l1, l2, j, h1, h2 => by
    cases hv with
    | cons hv1 hv2 =>
      cases hu with
      | cons hu1 hu2 =>
        cases ra with
        | cons ra1 ra2 =>
          cases rb with
          | cons rb1 rb2 =>
            unfold keyTs at kd ke
            obtain ⟨a1, a2⟩ := Bool.and_eq_true_iff.mp kd
            obtain ⟨b1, b2⟩ := Bool.and_eq_true_iff.mp ke
            unfold dpDs at l1 l2
            have m1 := Nat.le_max_left (dpD d) (dpDs r)
            have m2 := Nat.le_max_right (dpD d) (dpDs r)
            have m3 := Nat.le_max_left (dpD e) (dpDs q)
            have m4 := Nat.le_max_right (dpD e) (dpDs q)
            cases j with
            | zero => exact ea_run I a1 b1 hv1 hu1 ra1 rb1 (by omega) (by omega)
            | succ j =>
              have z := eas_run I (A := A) a2 b2 hv2 hu2 ra2 rb2 (by omega) (by omega) j (by simpa using h1) (by simpa using h2)
              have e2 : eqI (d :: r) (e :: q) (j + 1) = eqI r q j := by
                unfold eqI
                simp
              rw [e2]
              simpa using z
end
mutual
theorem la_run (I : Inv X pins σ H s) : ∀ {d e : PyData} {v u : V} {a b : Value} {A : Around}, keyT d = true → keyT e = true → canD d e = true → Dd X.K H v d → Dd X.K H u e → RelV v a → RelV u b → A.units + dpD d < cLine → A.units + dpD e < cLine → Ky.LtAt A s a b (ltD d e)
  | .int i, .int j, v, u, a, b, A, kd, ke, kc, hv, hu, ra, rb, l1, l2 => by
    cases hv
    cases hu
    obtain ⟨t, rfl⟩ := ra
    obtain ⟨t', rfl⟩ := rb
    unfold ltD
    exact fun P w Er Qr h => (PyProof.Rows.lt_int h : wpAny (model P w) A (compareOp .Lt (.int i t) (.int j t')) Qr Er s)
  | .str x, .str y, v, u, a, b, A, kd, ke, kc, hv, hu, ra, rb, l1, l2 => by
    cases hv
    cases hu
    obtain ⟨t, rfl⟩ := ra
    obtain ⟨t', rfl⟩ := rb
    unfold ltD
    exact fun P w Er Qr h => (PyProof.Rows.lt_str h : wpAny (model P w) A (compareOp .Lt (.str x t) (.str y t')) Qr Er s)
  | .tuple ds, .tuple es, v, u, a, b, A, kd, ke, kc, hv, hu, ra, rb, l1, l2 => by
    cases hv with
    | @tup p xs _ h1 h2 =>
      cases hu with
      | @tup q ys _ g1 g2 =>
        cases ra
        cases rb
        obtain ⟨its, r, pl, _⟩ := I.tuple (TupN.sq (K := X.K) h1)
        obtain ⟨its2, r2, pl2, _⟩ := I.tuple (TupN.sq (K := X.K) g1)
        unfold keyT at kd ke
        unfold dpD at l1 l2
        unfold canD at kc
        unfold ltD
        have key := lxs_run I (A := A.in1) kd ke kc h2 g2 r r2 (by show A.units + 1 + dpDs ds < cLine; omega) (by show A.units + 1 + dpDs es < cLine; omega)
        exact Ky.lt_tup pl pl2 (by omega) (by simpa using key)
  | .none, _, _, _, _, _, _, h, _, _, _, _, _, _, _, _ | .bool _, _, _, _, _, _, _, h, _, _, _, _, _, _, _, _ | .list _, _, _, _, _, _, _, h, _, _, _, _, _, _, _, _ | .dict _, _, _, _, _, _, _, h, _, _, _, _, _, _, _, _ => by
    unfold keyT at h
    cases h
  | .int _, .none, _, _, _, _, _, _, _, h, _, _, _, _, _, _ | .int _, .bool _, _, _, _, _, _, _, _, h, _, _, _, _, _, _ | .int _, .list _, _, _, _, _, _, _, _, h, _, _, _, _, _, _ | .int _, .dict _, _, _, _, _, _, _, _, h, _, _, _, _, _, _
  | .int _, .str _, _, _, _, _, _, _, _, h, _, _, _, _, _, _ | .int _, .tuple _, _, _, _, _, _, _, _, h, _, _, _, _, _, _ | .str _, .int _, _, _, _, _, _, _, _, h, _, _, _, _, _, _ | .str _, .tuple _, _, _, _, _, _, _, _, h, _, _, _, _, _, _
  | .str _, .none, _, _, _, _, _, _, _, h, _, _, _, _, _, _ | .str _, .bool _, _, _, _, _, _, _, _, h, _, _, _, _, _, _ | .str _, .list _, _, _, _, _, _, _, _, h, _, _, _, _, _, _ | .str _, .dict _, _, _, _, _, _, _, _, h, _, _, _, _, _, _
  | .tuple _, .none, _, _, _, _, _, _, _, h, _, _, _, _, _, _ | .tuple _, .bool _, _, _, _, _, _, _, _, h, _, _, _, _, _, _ | .tuple _, .list _, _, _, _, _, _, _, _, h, _, _, _, _, _, _ | .tuple _, .dict _, _, _, _, _, _, _, _, h, _, _, _, _, _, _
  | .tuple _, .int _, _, _, _, _, _, _, _, h, _, _, _, _, _, _ | .tuple _, .str _, _, _, _, _, _, _, _, h, _, _, _, _, _, _ => by
    unfold canD at h
    cases h
theorem lxs_run (I : Inv X pins σ H s) : ∀ {ds es : List PyData} {vs us : List V} {as bs : List Value} {A : Around}, keyTs ds = true → keyTs es = true → canDs ds es = true → DdAll X.K H vs ds → DdAll X.K H us es → Vals vs as → Vals us bs → A.units + dpDs ds < cLine → A.units + dpDs es < cLine →
    Ky.Lx A s as bs (ltDs ds es)
  | [], [], vs, us, as, bs, A, kd, ke, kc, hv, hu, ra, rb, l1, l2 => by
    cases hv
    cases ra
    cases hu
    cases rb
    unfold ltDs
    exact .done
  | [], _ :: _, vs, us, as, bs, A, kd, ke, kc, hv, hu, ra, rb, l1, l2 => by
    cases hv
    cases ra
    cases hu
    cases rb
    unfold ltDs
    exact .done
  | d :: r, [], vs, us, as, bs, A, kd, ke, kc, hv, hu, ra, rb, l1, l2 => by
    cases hv
    cases ra
    cases hu
    cases rb
    unfold ltDs
    exact .short
  | d :: r, e :: q, vs, us, as, bs, A, kd, ke, kc, hv, hu, ra, rb, l1, l2 => by
    cases hv with
    | cons hv1 hv2 =>
      cases hu with
      | cons hu1 hu2 =>
        cases ra with
        | cons ra1 ra2 =>
          cases rb with
          | cons rb1 rb2 =>
            unfold keyTs at kd ke
            obtain ⟨a1, a2⟩ := Bool.and_eq_true_iff.mp kd
            obtain ⟨b1, b2⟩ := Bool.and_eq_true_iff.mp ke
            unfold dpDs at l1 l2
            have m1 := Nat.le_max_left (dpD d) (dpDs r)
            have m2 := Nat.le_max_right (dpD d) (dpDs r)
            have m3 := Nat.le_max_left (dpD e) (dpDs q)
            have m4 := Nat.le_max_right (dpD e) (dpDs q)
            have he := ea_run I (A := A) a1 b1 hv1 hu1 ra1 rb1 (by omega) (by omega)
            unfold canDs at kc
            unfold ltDs
            show Ky.Lx A s _ _ (if eqD d e = true then ltDs r q else ltD d e)
            cases hq : eqD d e with
            | true =>
              rw [hq] at he
              have kc : (if eqD d e = true then canDs r q else canD d e) = true := kc
              rw [hq, if_pos rfl] at kc
              rw [if_pos rfl]
              exact .alike he (lxs_run I a2 b2 kc hv2 hu2 ra2 rb2 (by omega) (by omega))
            | false =>
              rw [hq] at he
              have kc : (if eqD d e = true then canDs r q else canD d e) = true := kc
              rw [hq, if_neg Bool.false_ne_true] at kc
              rw [if_neg Bool.false_ne_true]
              exact .apart he (la_run I a1 b1 kc hv1 hu1 ra1 rb1 (by omega) (by omega))
end
/-- == of two keys -/
def rEqK (K : PySem.W.Frag) : R2 := fun x y H Q => ∃ d e, Dd K H x d ∧ Dd K H y e ∧ keyT d = true ∧ keyT e = true ∧ dpD d ≤ 60 ∧ dpD e ≤ 60 ∧ Q (.bl (eqD d e)) H
/-- < of two keys -/
def rLtK (K : PySem.W.Frag) : R2 := fun x y H Q => ∃ d e, Dd K H x d ∧ Dd K H y e ∧ keyT d = true ∧ keyT e = true ∧ canD d e = true ∧ dpD d ≤ 60 ∧ dpD e ≤ 60 ∧ Q (.bl (ltD d e)) H
theorem op_ltK (hr : X.A.units + 64 < cLine) : OpR X (compareOp .Lt) (rLtK X.K) := by
  intro pins s σ H x y v u Q I rx ry h
  obtain ⟨d, e, hd, he, kd, ke, kc, l1, l2, q⟩ := h
  exact la_run I kd ke kc hd he rx ry (by omega) (by omega) _ _ _ _ ⟨.bl _, H, I, rfl, q⟩
end
end Sm
/-! Keys in the heap: what > of them gives. -/
namespace Kg
open PySem PySem.SeqAt PySem.AutoSeq1 PySem.MeetsSeq PySem.MeetsSeq2 PySem.MeetsSeq3
/-- x comes behind y by `>` -/
def GtAt (A : Around) (s : Shared) (x y : Value) (b : Bool) : Prop := ∀ (P : Program) (w : World) (Er Qr : Value → Shared → Prop), Qr (.bool b) s → wpAny (model P w) A (richCompare .Gt x y) Qr Er s
/-- two rows of values: the first place where they are unlike decides -/
inductive Gx (A : Around) (s : Shared) : List Value → List Value → Bool → Prop
  | done {ys : List Value} : Gx A s [] ys false
  | short {x : Value} {xs : List Value} : Gx A s (x :: xs) [] true
  | alike {x y : Value} {xs ys : List Value} {b : Bool} : EqAt A s x y true → Gx A s xs ys b → Gx A s (x :: xs) (y :: ys) b
  | apart {x y : Value} {xs ys : List Value} {b : Bool} : EqAt A s x y false → GtAt A s x y b → Gx A s (x :: xs) (y :: ys) b
theorem gt_meets (p q : Addr) (us ws : Array Value) (e1 e2 : Nat) (f1 f2 : Option Addr) (g1 g2 : Array (Option Value)) (k : Bool) :
    Meets (Builtin.«tuple.__gt__» ⟨[.ref p, .ref q], []⟩) (fun A R s => s.heap.get? p = some { cls := .type "tuple", dict := f1, data := .seq us e1, slots := g1 } ∧
      s.heap.get? q = some { cls := .type "tuple", dict := f2, data := .seq ws e2, slots := g2 } ∧ Gx A.in1 s us.toList ws.toList k ∧ R (.ok (.ret (.bool k))) s) :=
  .of_wp fun P w A R s hyp => by
    obtain ⟨hh, hg, hd, ht, ho⟩ := s
    obtain ⟨k1, k2, kx, kr⟩ := hyp
    have sub := AutoSeq1.sub_tuple_tuple
    wp_walk using wpAny_loadPart' k1, wpAny_loadPart' k2, wpAny_forIn_list _ (fun rst acc s' => acc.1 = none ∧ s' = ⟨hh, hg, hd, ht, ho⟩ ∧
      ∃ (l m : List Value), rst = l.zip m ∧ Gx A.in1 ⟨hh, hg, hd, ht, ho⟩ l m k ∧ l.length + ws.size = m.length + us.size) _
    case turn =>
      rintro ⟨y, x⟩ rst acc s' ⟨hacc, rfl, l, m, hz, hL, hn⟩
      cases hL with
      | done =>
        rw [List.zip_nil_left] at hz
        cases hz
      | short =>
        rw [List.zip_nil_right] at hz
        cases hz
      | alike he hl =>
        rw [List.zip_cons_cons] at hz
        injection hz with hz1 hz2
        injection hz1 with hz3 hz4
        subst hz3 hz4
        refine wpAny_bind (he P w _ _ ?_)
        wp_walk
        exact ⟨rfl, rfl, _, _, hz2, hl, by simp only [List.length_cons] at hn; omega⟩
      | apart he hl =>
        rw [List.zip_cons_cons] at hz
        injection hz with hz1 hz2
        injection hz1 with hz3 hz4
        subst hz3 hz4
        have hl2 := fun (Er Qr : Value → Shared → Prop) (hq : Qr (.bool _) _) => hl P w Er Qr hq
        refine wpAny_bind (he P w _ _ ?_)
        generalize richCompare .Gt y x = rc at hl2 ⊢
        wp_walk
        refine hl2 _ _ ?_
        wp_walk
        exact ⟨_, rfl, kr⟩
    case fin =>
      rintro ⟨c1, c2⟩ s' ⟨hacc, rfl, l, m, hz, hL, hn⟩
      simp only at hacc
      subst hacc
      have hk : decide (us.size > ws.size) = k := by
        cases hL with
        | done =>
          simp only [List.length_nil] at hn
          exact decide_eq_false (by omega)
        | short =>
          simp only [List.length_nil, List.length_cons] at hn
          exact decide_eq_true (by omega)
        | alike _ _ => cases hz
        | apart _ _ => cases hz
      wp_walk
      exact ⟨_, rfl, by simpa [Builtin.Tuple.tupleCompareSizes, hk] using kr⟩
    case h => exact ⟨rfl, rfl, _, _, rfl, kx, by simp [Nat.add_comm]⟩
theorem gt_tup {A : Around} {s : Shared} {p q : Addr} {us ws : Array Value} {k : Bool} (hp : s.heap.IsTuple p us) (hq : s.heap.IsTuple q ws) (hu : A.units < cLine) (h : Gx A.in1 s us.toList ws.toList k) : GtAt A s (.ref p) (.ref q) k := fun P w Er Qr hQ => by
  obtain ⟨⟨c1, f1, d1, g1⟩, o1, c1', n1, t1⟩ := id hp
  obtain ⟨⟨c2, f2, d2, g2⟩, o2, c2', n2, t2⟩ := id hq
  simp only at c1' t1 c2' t2
  subst c1' t1 c2' t2
  refine richCompare_meets_room (op := .Gt) ⟨_, o1, rfl⟩ ⟨_, o2, rfl⟩ F.slot_tuple_gt F.entry_tuple_gt (F.args_tuple_gt_2 _ _) (gt_meets p q us ws n1 n2 f1 f2 g1 g2 k) ⟨o1, o2, h, ?_⟩ hu
  exact (show Value.bool k ≠ Value.notImplemented ∧ Qr (.bool k) s from ⟨(fun z => nomatch z), hQ⟩)
end Kg
namespace Sm
open PySem PySem.Spec PyProof.Rows L2 Vd
theorem eqD_comm {d e : PyData} (h : keyT d = true) (k : keyT e = true) : eqD d e = eqD e d := by
  rw [Bool.eq_iff_iff, eqD_iff h, eqD_iff k]
  exact eq_comm
section
variable {X : Cx} {pins : List (Addr × Obj)} {σ : L2.St} {H : Hp} {s : Shared}
mutual
theorem ga_run (I : Inv X pins σ H s) : ∀ {d e : PyData} {v u : V} {a b : Value} {A : Around}, keyT d = true → keyT e = true → canD d e = true → Dd X.K H v d → Dd X.K H u e → RelV v a → RelV u b → A.units + dpD d < cLine → A.units + dpD e < cLine → Kg.GtAt A s a b (ltD e d)
  | .int i, .int j, v, u, a, b, A, kd, ke, kc, hv, hu, ra, rb, l1, l2 => by
    cases hv
    cases hu
    obtain ⟨t, rfl⟩ := ra
    obtain ⟨t', rfl⟩ := rb
    unfold ltD
    exact fun P w Er Qr h => (PyProof.Rows.gt_int h : wpAny (model P w) A (compareOp .Gt (.int i t) (.int j t')) Qr Er s)
  | .str x, .str y, v, u, a, b, A, kd, ke, kc, hv, hu, ra, rb, l1, l2 => by
    cases hv
    cases hu
    obtain ⟨t, rfl⟩ := ra
    obtain ⟨t', rfl⟩ := rb
    unfold ltD
    exact fun P w Er Qr h => (PySem.P.gt_str h : wpAny (model P w) A (compareOp .Gt (.str x t) (.str y t')) Qr Er s)
  | .tuple ds, .tuple es, v, u, a, b, A, kd, ke, kc, hv, hu, ra, rb, l1, l2 => by
    cases hv with
    | @tup p xs _ h1 h2 =>
      cases hu with
      | @tup q ys _ g1 g2 =>
        cases ra
        cases rb
        obtain ⟨its, r, pl, _⟩ := I.tuple (TupN.sq (K := X.K) h1)
        obtain ⟨its2, r2, pl2, _⟩ := I.tuple (TupN.sq (K := X.K) g1)
        unfold keyT at kd ke
        unfold dpD at l1 l2
        unfold canD at kc
        unfold ltD
        have key := gxs_run I (A := A.in1) kd ke kc h2 g2 r r2 (by show A.units + 1 + dpDs ds < cLine; omega) (by show A.units + 1 + dpDs es < cLine; omega)
        exact Kg.gt_tup pl pl2 (by omega) (by simpa using key)
  | .none, _, _, _, _, _, _, h, _, _, _, _, _, _, _, _ | .bool _, _, _, _, _, _, _, h, _, _, _, _, _, _, _, _ | .list _, _, _, _, _, _, _, h, _, _, _, _, _, _, _, _ | .dict _, _, _, _, _, _, _, h, _, _, _, _, _, _, _, _ => by
    unfold keyT at h
    cases h
  | .int _, .none, _, _, _, _, _, _, _, h, _, _, _, _, _, _ | .int _, .bool _, _, _, _, _, _, _, _, h, _, _, _, _, _, _ | .int _, .list _, _, _, _, _, _, _, _, h, _, _, _, _, _, _ | .int _, .dict _, _, _, _, _, _, _, _, h, _, _, _, _, _, _
  | .int _, .str _, _, _, _, _, _, _, _, h, _, _, _, _, _, _ | .int _, .tuple _, _, _, _, _, _, _, _, h, _, _, _, _, _, _ | .str _, .int _, _, _, _, _, _, _, _, h, _, _, _, _, _, _ | .str _, .tuple _, _, _, _, _, _, _, _, h, _, _, _, _, _, _
  | .str _, .none, _, _, _, _, _, _, _, h, _, _, _, _, _, _ | .str _, .bool _, _, _, _, _, _, _, _, h, _, _, _, _, _, _ | .str _, .list _, _, _, _, _, _, _, _, h, _, _, _, _, _, _ | .str _, .dict _, _, _, _, _, _, _, _, h, _, _, _, _, _, _
  | .tuple _, .none, _, _, _, _, _, _, _, h, _, _, _, _, _, _ | .tuple _, .bool _, _, _, _, _, _, _, _, h, _, _, _, _, _, _ | .tuple _, .list _, _, _, _, _, _, _, _, h, _, _, _, _, _, _ | .tuple _, .dict _, _, _, _, _, _, _, _, h, _, _, _, _, _, _
  | .tuple _, .int _, _, _, _, _, _, _, _, h, _, _, _, _, _, _ | .tuple _, .str _, _, _, _, _, _, _, _, h, _, _, _, _, _, _ => by
    unfold canD at h
    cases h
theorem gxs_run (I : Inv X pins σ H s) : ∀ {ds es : List PyData} {vs us : List V} {as bs : List Value} {A : Around}, keyTs ds = true → keyTs es = true → canDs ds es = true → DdAll X.K H vs ds → DdAll X.K H us es → Vals vs as → Vals us bs → A.units + dpDs ds < cLine → A.units + dpDs es < cLine →
    Kg.Gx A s as bs (ltDs es ds)
  | [], [], vs, us, as, bs, A, kd, ke, kc, hv, hu, ra, rb, l1, l2 => by
    cases hv
    cases ra
    cases hu
    cases rb
    unfold ltDs
    exact .done
  | [], _ :: _, vs, us, as, bs, A, kd, ke, kc, hv, hu, ra, rb, l1, l2 => by
    cases hv
    cases ra
    cases hu
    cases rb
    unfold ltDs
    exact .done
  | d :: r, [], vs, us, as, bs, A, kd, ke, kc, hv, hu, ra, rb, l1, l2 => by
    cases hv
    cases ra
    cases hu
    cases rb
    unfold ltDs
    exact .short
  | d :: r, e :: q, vs, us, as, bs, A, kd, ke, kc, hv, hu, ra, rb, l1, l2 => by
    cases hv with
    | cons hv1 hv2 =>
      cases hu with
      | cons hu1 hu2 =>
        cases ra with
        | cons ra1 ra2 =>
          cases rb with
          | cons rb1 rb2 =>
            unfold keyTs at kd ke
            obtain ⟨a1, a2⟩ := Bool.and_eq_true_iff.mp kd
            obtain ⟨b1, b2⟩ := Bool.and_eq_true_iff.mp ke
            unfold dpDs at l1 l2
            have m1 := Nat.le_max_left (dpD d) (dpDs r)
            have m2 := Nat.le_max_right (dpD d) (dpDs r)
            have m3 := Nat.le_max_left (dpD e) (dpDs q)
            have m4 := Nat.le_max_right (dpD e) (dpDs q)
            have he := ea_run I (A := A) a1 b1 hv1 hu1 ra1 rb1 (by omega) (by omega)
            unfold canDs at kc
            unfold ltDs
            show Kg.Gx A s _ _ (if eqD e d = true then ltDs q r else ltD e d)
            rw [← eqD_comm a1 b1]
            cases hq : eqD d e with
            | true =>
              rw [hq] at he
              have kc : (if eqD d e = true then canDs r q else canD d e) = true := kc
              rw [hq, if_pos rfl] at kc
              rw [if_pos rfl]
              exact .alike he (gxs_run I a2 b2 kc hv2 hu2 ra2 rb2 (by omega) (by omega))
            | false =>
              rw [hq] at he
              have kc : (if eqD d e = true then canDs r q else canD d e) = true := kc
              rw [hq, if_neg Bool.false_ne_true] at kc
              rw [if_neg Bool.false_ne_true]
              exact .apart he (ga_run I a1 b1 kc hv1 hu1 ra1 rb1 (by omega) (by omega))
end
/-- > of two keys -/
def rGtK (K : PySem.W.Frag) : R2 := fun x y H Q => ∃ d e, Dd K H x d ∧ Dd K H y e ∧ keyT d = true ∧ keyT e = true ∧ canD d e = true ∧ dpD d ≤ 60 ∧ dpD e ≤ 60 ∧ Q (.bl (ltD e d)) H
theorem op_gtK (hr : X.A.units + 64 < cLine) : OpR X (compareOp .Gt) (rGtK X.K) := by
  intro pins s σ H x y v u Q I rx ry h
  obtain ⟨d, e, hd, he, kd, ke, kc, l1, l2, q⟩ := h
  exact ga_run I kd ke kc hd he rx ry (by omega) (by omega) _ _ _ _ ⟨.bl _, H, I, rfl, q⟩
end
end Sm
/-! Readings of expressions that give keys; the program's keys. -/
namespace Sm
open PySem PySem.Spec PyProof.Rows L2 Vd
abbrev rTupOf (K : PySem.W.Frag) : List V → Hp → VK → Prop := fun xs H Q => ∃ p ys, xs = [.ref p] ∧ ((SqL K H p ys ∧ ∀ l, H l = none → Q (.ref l) (upd H l (.tup ys))) ∨ (SqT K H p ys ∧ Q (.ref p) H))
def YV (K : PySem.W.Frag) (te : TE) (σ : L2.St) (H : Hp) (d : PyData) : Prop := ∀ (H1 : Hp) (Q : VK), Same H H1 → (∀ v H2, Same H1 H2 → Dd K H2 v d → Q v H2) → te σ H1 Q
def YVs (K : PySem.W.Frag) (t : TA) (σ : L2.St) (H : Hp) (ds : List PyData) : Prop := ∀ (H1 : Hp) (Q : List V → Hp → Prop), Same H H1 → (∀ vs H2, Same H1 H2 → DdAll K H2 vs ds → Q vs H2) → t σ H1 Q
theorem ofTup {K : PySem.W.Frag} {H : Hp} {v : V} {ds : List PyData} (h : Dd K H v (.tuple ds)) : ∃ p xs, v = .ref p ∧ TupN H p xs ∧ DdAll K H xs ds := by
  cases h with
  | tup h1 h2 => exact ⟨_, _, rfl, h1, h2⟩
/-! keys lean on tuples alone -/
mutual
theorem dv_key {K : PySem.W.Frag} {H : Hp} {D : Addr} (n : ∀ xs, ¬ TupN H D xs) : ∀ {d : PyData} {v : V}, keyT d = true → Dd K H v d → Dv D K H v d
  | .int i, v, _, h => by
    cases h
    exact .int i
  | .str x, v, _, h => by
    cases h
    exact .str x
  | .tuple ds, v, k, h => by
    obtain ⟨p, xs, rfl, h1, h2⟩ := ofTup h
    unfold keyT at k
    exact Dv.tup h1 (fun e => n xs (e ▸ h1)) (dvs_key n k h2)
  | .none, _, h, _ | .bool _, _, h, _ | .list _, _, h, _ | .dict _, _, h, _ => by
    unfold keyT at h
    cases h
theorem dvs_key {K : PySem.W.Frag} {H : Hp} {D : Addr} (n : ∀ xs, ¬ TupN H D xs) : ∀ {ds : List PyData} {vs : List V}, keyTs ds = true → DdAll K H vs ds → DvAll D K H vs ds
  | [], vs, _, h => by
    cases h
    exact .nil
  | d :: r, vs, k, h => by
    unfold keyTs at k
    obtain ⟨a1, a2⟩ := Bool.and_eq_true_iff.mp k
    cases h with
    | cons h1 h2 => exact .cons (dv_key n a1 h1) (dvs_key n a2 h2)
end
theorem not_tup {H : Hp} {D : Addr} {ys : List V} (h : H D = some (.lst ys)) : ∀ xs, ¬ TupN H D xs := fun xs z => by
  rcases z with z | ⟨o, z⟩ <;> rw [h] at z <;> cases z
theorem keyTs_mem : ∀ {ds : List PyData} {d : PyData}, keyTs ds = true → d ∈ ds → keyT d = true
  | x :: r, d, h, m => by
    unfold keyTs at h
    obtain ⟨h1, h2⟩ := Bool.and_eq_true_iff.mp h
    rcases List.mem_cons.mp m with rfl | m
    · exact h1
    · exact keyTs_mem h2 m
theorem keyTs_of : ∀ {ds : List PyData}, (∀ d ∈ ds, keyT d = true) → keyTs ds = true
  | [], _ => by unfold keyTs; rfl
  | x :: r, h => by
    unfold keyTs
    rw [h x List.mem_cons_self, keyTs_of fun d m => h d (List.mem_cons_of_mem _ m)]
    rfl
section
variable {K : PySem.W.Frag} {σ : L2.St} {H : Hp} {ta tb tc : TE} {d e : PyData} {i : Int}
theorem yv_eq (h : YV K ta σ H d) (z : d = e) : YV K ta σ H e := z ▸ h
theorem yv_var {m : Nat} {v : V} (hσ : σ[m]? = some (some v)) (hd : Dd K H v d) : YV K (tVar m) σ H d := fun H1 Q s q => ⟨v, hσ, q v H1 (Same.refl H1) (hd.same s)⟩
theorem yv_int : YV K (tC (.int i)) σ H (.int i) := fun H1 Q s q => q _ H1 (Same.refl H1) (.int i)
theorem yv_str {x : Str} : YV K (tC (.str x)) σ H (.str x) := fun H1 Q s q => q _ H1 (Same.refl H1) (.str x)
theorem yvs_nil : YVs K tNil σ H [] := fun H1 Q s q => q _ H1 (Same.refl H1) .nil
theorem yvs_cons {t : TA} {ds : List PyData} (ha : YV K ta σ H d) (ht : YVs K t σ H ds) : YVs K (tCons ta t) σ H (d :: ds) := fun H1 Q s q => ha H1 _ s fun v H2 s2 hd => ht H2 _ (s.trans s2) fun vs H3 s3 hds => q _ H3 (s2.trans s3) (.cons (hd.same s3) hds)
theorem yv_tup {t : TA} {ds : List PyData} (ht : YVs K t σ H ds) (hz : ds.length ≤ 1000) : YV K (tTup t) σ H (.tuple ds) := fun H1 Q s q => ht H1 _ s fun vs H2 s2 hds =>
  ⟨by rw [dall_len hds, sizeLine_eq]; omega, fun p hp => q _ _ (s2.trans (same_up hp)) (.tup (.inl upd_same) (DdAll.same (same_up hp) hds))⟩
theorem yv_ix {ds : List PyData} {m : Nat} (ha : YV K ta σ H (.tuple ds)) (he : ds[m]? = some e) : YV K (tOp (rIxT K) ta (tC (.int m))) σ H e := fun H1 Q s q => ha H1 _ s fun v H2 s2 hd => by
  obtain ⟨p, xs, rfl, h0, h2⟩ := ofTup hd
  obtain ⟨u, hu, hdu⟩ := dall_at h2 he
  exact ⟨p, xs, m, u, rfl, rfl, h0.sq, atI_nat hu, q u H2 s2 hdu⟩
theorem yv_if {t : TT} {c : Bool} (ht : ∀ (H1 : Hp) (Q : Bool → Hp → Prop), Same H H1 → (∀ H2, Same H1 H2 → Q c H2) → t σ H1 Q) (ha : c = true → YV K ta σ H d) (hb : c = false → YV K tb σ H e) : YV K (tIf t ta tb) σ H (if c = true then d else e) := fun H1 Q s q => ht H1 _ s fun H2 s2 =>
  tst (fun z => ha z H2 Q (s.trans s2) fun v H3 s3 hd => q v H3 (s2.trans s3) (by rw [z, if_pos rfl]; exact hd)) fun z => hb z H2 Q (s.trans s2) fun v H3 s3 hd => q v H3 (s2.trans s3) (by rw [z, if_neg Bool.false_ne_true]; exact hd)
/-- a def that makes data of data -/
def spK (K : PySem.W.Frag) (C : PyData → Prop) (f : PyData → PyData) : Sp := fun vs H Q _ => ∃ (v : V) (d : PyData), vs = [v] ∧ Dd K H v d ∧ C d ∧ ∀ v' H', Same H H' → Dd K H' v' (f d) → Q v' H'
theorem spK_len {C : PyData → Prop} {f : PyData → PyData} {x : Str} : ∀ vs H Q E, spK K C f vs H Q E → vs.length = [x].length := fun vs H Q E h => by
  obtain ⟨v, d, rfl, _⟩ := h
  rfl
theorem yv_df {C : PyData → Prop} {f : PyData → PyData} (ha : YV K ta σ H d) (c : C d) : YV K (tCall (spK K C f) [] E0 (tCons ta tNil)) σ H (f d) := fun H1 Q s q => ha H1 _ s fun v H2 s2 hd => ⟨v, d, rfl, hd, c, fun v' H' s' hd' => q v' H' (s2.trans s') hd'⟩
/-- a list of keys, one for each of a tuple -/
theorem lk_tup {ds : List PyData} {f : PyData → PyData} {te tp : TE} {m : Nat} (ha : YV K tp σ H (.tuple ds)) (hz : ds.length ≤ 100000) (hw : ∀ v, wipe ((wipe σ [m]).set m v) [m] = wipe σ [m])
    (hte : ∀ v d H', d ∈ ds → Same H H' → Dd K H' v d → YV K te ((wipe σ [m]).set m (some v)) H' (f d)) (hk : ∀ d ∈ ds, keyT (f d) = true) {H1 : Hp} {Q : VK} (s : Same H H1) (q : ∀ D ys H2, Same H1 H2 → H2 D = some (.lst ys) → DdAll K H2 ys (ds.map f) → Q (.ref D) H2) :
    tLc (iTup K tp) (gName m) tYes te [m] σ H1 Q := ha H1 _ s fun v H2 s2 hd => by
  obtain ⟨a, xs, rfl, h0, h2⟩ := ofTup hd
  refine ⟨a, rfl, ⟨_, h0.sq⟩, fun D hD => ?_⟩
  refine lc_tup (xs := xs) (fun i H' => Same H2 H' ∧ ∃ ys, H' D = some (.lst ys) ∧ DvAll D K H' ys ((ds.take i).map f)) ⟨same_up hD, [], upd_same, .nil⟩ (fun i H' _ e => (SqT.same e.1 h0.sq)) (fun i x H' hx e => ?_) (fun H3 e => ?_)
  · obtain ⟨d, he, hdd⟩ := dall_at' h2 hx
    obtain ⟨sH, ys, hy, hys⟩ := e
    have il : i < ds.length := (List.getElem?_eq_some_iff.mp he).1
    refine ⟨hw _, hte x d H' (List.mem_of_getElem? he) ((s.trans s2).trans sH) (hdd.same sH) H' _ (Same.refl H') fun v H4 s4 hv => ⟨ys, s4 _ _ hy, ?_, ?_, ys ++ [v], upd_same, ?_⟩⟩
    · have := dall_len hys
      rw [List.length_map, List.length_take] at this
      rw [sizeLine_eq]
      omega
    · intro c o z
      rw [upd_ne (ne_of_none z hD)]
      exact s4 _ _ (sH c o z)
    · have kp : Kp D H4 (upd H4 D (.lst (ys ++ [v]))) := kp_keep fun b o n h => by
        rw [upd_ne n]
        exact h
      have g1 : DvAll D K (upd H4 D (.lst (ys ++ [v]))) ys ((ds.take i).map f) := (hys.kp (kp_same s4)).kp kp
      have g2 : Dv D K (upd H4 D (.lst (ys ++ [v]))) v (f d) := (dv_key (not_tup (s4 _ _ hy)) (hk d (List.mem_of_getElem? he)) hv).kp kp
      rw [List.take_add_one, he, List.map_append]
      exact dall_app g1 (.cons g2 .nil)
  · obtain ⟨sH, ys, hy, hys⟩ := e
    rw [dall_len h2, List.take_of_length_le (Nat.le_refl _)] at hys
    exact q D ys H3 (s2.trans sH) hy (DdAll.same vis_same hys)
/-- tuple([key of one for one in tuple]) -/
theorem yv_lcT {ds : List PyData} {f : PyData → PyData} {te tp : TE} {m : Nat} (ha : YV K tp σ H (.tuple ds)) (hz : ds.length ≤ 100000) (hw : ∀ v, wipe ((wipe σ [m]).set m v) [m] = wipe σ [m])
    (hte : ∀ v d H', d ∈ ds → Same H H' → Dd K H' v d → YV K te ((wipe σ [m]).set m (some v)) H' (f d)) (hk : ∀ d ∈ ds, keyT (f d) = true) : YV K (tCB (rTupOf K) (tCons (tLc (iTup K tp) (gName m) tYes te [m]) tNil)) σ H (.tuple (ds.map f)) := fun H1 Q s q =>
  lk_tup (Q := fun v H2 => rTupOf K [v] H2 Q) ha hz hw hte hk s fun D ys H2 s2 hD hys => ⟨D, ys, rfl, .inl ⟨SqL.of hD, fun l hl => q _ _ (s2.trans (same_up hl)) (.tup (.inl upd_same) (DdAll.same (same_up hl) hys))⟩⟩
end
/-! ### the program's keys -/
def wkD (d : PyData) : PyData := .tuple [.int (if isS d = true then 1 else 0), d]
def partsD : PyData → List PyData
  | .tuple ds => ds
  | _ => []
def rkD (d : PyData) : PyData := .tuple ((partsD d).map wkD)
def fkD : PyData → PyData
  | .tuple [n, r] => .tuple [n, rkD r]
  | d => d
theorem wk_key {d : PyData} (h : keyT d = true) : keyT (wkD d) = true := by
  unfold wkD keyT keyTs keyTs keyTs
  rw [h]
  unfold keyT
  rfl
def RowK (d : PyData) : Prop := ∃ ws, d = .tuple ws ∧ ws.length ≤ 1000 ∧ keyTs ws = true
def FactK (d : PyData) : Prop := ∃ n r, d = .tuple [n, r] ∧ keyT n = true ∧ RowK r
theorem rk_key {d : PyData} (h : RowK d) : keyT (rkD d) = true := by
  obtain ⟨ws, rfl, _, k⟩ := h
  unfold rkD keyT
  exact keyTs_of fun e he => by
    obtain ⟨x, hx, rfl⟩ := List.mem_map.mp he
    exact wk_key (keyTs_mem k hx)
section
variable {P : Program} {w : World} {K : PySem.W.Frag} {mg : Str → Option Value} {base : Heap}
abbrev DK (P : Program) (w : World) (K : PySem.W.Frag) (mg : Str → Option Value) (base : Heap) (x : Str) (k : Nat) (a : Str) (C : PyData → Prop) (f : PyData → PyData) : Prop := Df P w K mg base x k [a] (spK K C f)
theorem scWKey : FnScope ["worth"] ["worth"] (defScope sWKey) := ⟨rfl, rfl, rfl, by decide +kernel, rfl, by decide +kernel, by decide +kernel⟩
theorem ok_wkey {f : Addr} {fd : FuncData} (F : FnP K "worth_key" sWKey f fd) (M : Nm mg) : FnOk P w K mg base CX0 1 f fd ["worth"] (spK K (fun _ => True) wkD) := by
  refine F.ok scWKey spK_len (fun cdv A outer s H vs Q E hr h => ?_)
  obtain ⟨v, d, rfl, hd, _, q⟩ := h
  refine ⟨_, PSs.nox (pss_one (ps_ret (pe_ifExp (pt_val (pe_callB (id := "isinstance") (r := rIsi K) call_isi (by rfl) M.isinstance (by decide +kernel) (pa_cons (pv 0) (pa_cons (ty_cls (n := "str") M.str (by rfl) (by decide +kernel)) pa_nil)))) (pe_tup (pa_cons pe_int (pa_cons (pv 0) pa_nil))) (pe_tup (pa_cons pe_int (pa_cons (pv 0) pa_nil)))))), ?_⟩
  have hv : YV K (tVar 0) [some v] H d := yv_var rfl hd
  refine yv_eq (e := wkD d) (yv_if (c := isS d) (d := .tuple [.int 1, d]) (e := .tuple [.int 0, d]) (fun H1 Q s q => ⟨_, rfl, _, _, _, _, _, rfl, .ty _, tyx (hd.same s), kit_ty (kS d), _, rfl, q H1 (Same.refl H1)⟩) (fun _ => yv_tup (yvs_cons yv_int (yvs_cons hv yvs_nil)) (by simp)) (fun _ => yv_tup (yvs_cons yv_int (yvs_cons hv yvs_nil)) (by simp))) ?_ H _ (Same.refl H) q
  unfold wkD
  cases isS d <;> rfl
theorem scRKey : FnScope ["row", "worth"] ["row"] (defScope sRKey) := ⟨rfl, rfl, rfl, by decide +kernel, rfl, by decide +kernel, by decide +kernel⟩
theorem ok_rkey {f : Addr} {fd : FuncData} (F : FnP K "row_key" sRKey f fd) (M : Nm mg) (DW : DK P w K mg base "worth_key" 1 "worth" (fun _ => True) wkD) : FnOk P w K mg base CX0 2 f fd ["row"] (spK K RowK rkD) := by
  refine F.ok scRKey spK_len (fun cdv A outer s H vs Q E hr h => ?_)
  obtain ⟨v, d, rfl, hd, ⟨ws, rfl, hl, hk⟩, q⟩ := h
  refine ⟨_, PSs.nox (pss_one (ps_ret (pe_callTy (r := rTupOf K) call_tuple_of (by rfl) M.tuple (by decide +kernel) (pa_cons (pe_lc (own := [("worth", 1)]) (g := gName 1) (tt := tYes) (by rfl) scRKey.nd (pi_tup (pv 0)) (blkOk_by (N := ["row", "worth"]) (sc := defScope sRKey) (by decide +kernel)) (fun _ _ _ _ _ => pg_name (i := 1) scRKey.nd rfl (Or.inl rfl)) (fun _ _ _ _ _ => pts_nil) (fun _ _ _ _ _ => (pe_df DW hr (by decide) (pa_cons (pv 1) pa_nil)))) pa_nil)))), ?_⟩
  exact yv_lcT (f := wkD) (yv_var rfl hd) (by omega) (fun _ => rfl) (fun v d H' m s hd' => yv_df (yv_var rfl hd') trivial) (fun d m => wk_key (keyTs_mem hk m)) H _ (Same.refl H) q
theorem scFKey : FnScope ["fact"] ["fact"] (defScope sFKey) := ⟨rfl, rfl, rfl, by decide +kernel, rfl, by decide +kernel, by decide +kernel⟩
theorem ok_fkey {f : Addr} {fd : FuncData} (F : FnP K "fact_key" sFKey f fd) (DR : DK P w K mg base "row_key" 2 "row" RowK rkD) : FnOk P w K mg base CX0 3 f fd ["fact"] (spK K FactK fkD) := by
  refine F.ok scFKey spK_len (fun cdv A outer s H vs Q E hr h => ?_)
  obtain ⟨v, d, rfl, hd, ⟨n, r, rfl, kn, hr2⟩, q⟩ := h
  refine ⟨_, PSs.nox (pss_one (ps_ret (pe_tup (pa_cons (pe_ix (r := rIxT K) ix_tup (pv 0) pe_int (fun _ _ => rfl)) (pa_cons (pe_df DR hr (by decide) (pa_cons (pe_ix (r := rIxT K) ix_tup (pv 0) pe_int (fun _ _ => rfl)) pa_nil)) pa_nil))))), ?_⟩
  have hv : YV K (tVar 0) [some v] H (.tuple [n, r]) := yv_var rfl hd
  exact yv_tup (yvs_cons (yv_ix (m := 0) hv rfl) (yvs_cons (yv_df (yv_ix (m := 1) hv rfl) hr2) yvs_nil)) (by simp) H _ (Same.refl H) q
end
end Sm
/-! Rising keys; facts that are let. -/
namespace Sm
open PySem PySem.Spec PyProof.Rows L2 Vd RZ
section
variable {K : PySem.W.Frag}
theorem grow {bs : List Bool} {n : Nat} {b : Bool} {H0 H' H2 : Hp} {D : Addr} (hb : bs[n]? = some b) (hz : bs.length ≤ 1000000) (hD : H0 D = none) (e : Same H0 H' ∧ H' D = some (.lst ((bs.take n).map V.bl))) (s : Same H' H2) :
    ∃ acc, H2 D = some (.lst acc) ∧ acc.length < sizeLine ∧ Same H0 (upd H2 D (.lst (acc ++ [.bl b]))) ∧ (upd H2 D (.lst (acc ++ [.bl b]))) D = some (.lst ((bs.take (n + 1)).map V.bl)) := by
  refine ⟨_, s _ _ e.2, ?_, ?_, ?_⟩
  · have h1 : n < bs.length := (List.getElem?_eq_some_iff.mp hb).1
    rw [List.length_map, List.length_take, sizeLine_eq]
    omega
  · intro c o z
    rw [upd_ne (ne_of_none z hD)]
    exact s _ _ (e.1 c o z)
  · rw [upd_same, List.take_add_one, hb, List.map_append]
    rfl
theorem fin_all {bs : List Bool} {H0 H1 : Hp} {D : Addr} {Q : VK} (e : Same H0 H1 ∧ H1 D = some (.lst ((bs.take bs.length).map V.bl))) (q : ∀ H2, Same H0 H2 → Q (.bl (bs.all id)) H2) : rAll K [.ref D] H1 Q :=
  ⟨D, bs, rfl, SqL.of (by rw [e.2, List.take_of_length_le (Nat.le_refl _)]), q H1 e.1⟩

theorem lc_zip {a b : Addr} {xs ys : List V} {g : TG} {tt : TT} {te : TE} {vs : List Nat} {σ : L2.St} {H1 : Hp} {D : Addr} {Qd : Hp → Prop} (n : Nat) (hn : n = min xs.length ys.length) (Pv : Nat → Hp → Prop) (h0 : Pv 0 (upd H1 D (.lst []))) (hl : ∀ i H, Pv i H → SqL K H a xs ∧ SqL K H b ys)
    (hs : ∀ i x y T H, xs[i]? = some x → ys[i]? = some y → Pv i H → H T = none → g (.ref T) (wipe σ vs) (upd H T (.tup [x, y])) fun σ2 H2 => wipe σ2 vs = wipe σ vs ∧ tt σ2 H2 fun b H3 =>
      if b = true then te σ2 H3 fun y H4 => ∃ acc, H4 D = some (.lst acc) ∧ acc.length < sizeLine ∧ Pv (i + 1) (upd H4 D (.lst (acc ++ [y]))) else Pv (i + 1) H3) (hd : ∀ H, Pv n H → Qd H) :
    ∃ W : Nat → Nat → Hp → Prop, (∃ m, W 0 m (upd H1 D (.lst []))) ∧ ∀ i m H, W i m H →
      ((Itz K a b).stop i H ∧ Qd H) ∨ ((Itz K a b).go i H ∧ ∃ Nx : Hp → Prop, (∀ H', Nx H' → ∃ m', m' < m ∧ W (i + 1) m' H') ∧ ∀ x H', (Itz K a b).yld i H x H' → g x (wipe σ vs) H' fun σ2 H2 => wipe σ2 vs = wipe σ vs ∧ tt σ2 H2 fun b H3 =>
        if b = true then te σ2 H3 fun y H4 => ∃ acc, H4 D = some (.lst acc) ∧ acc.length < sizeLine ∧ Nx (upd H4 D (.lst (acc ++ [y]))) else Nx H3) := by
  refine ⟨fun i m H => m = n - i ∧ i ≤ n ∧ Pv i H, ⟨n, by simp, Nat.zero_le _, h0⟩, ?_⟩
  rintro i m H ⟨rfl, hi, p⟩
  obtain ⟨qx, qy⟩ := hl i H p
  by_cases hlt : i < n
  · have hx : xs[i]? = some xs[i] := List.getElem?_eq_getElem (by omega)
    have hy : ys[i]? = some ys[i] := List.getElem?_eq_getElem (by omega)
    refine .inr ⟨⟨xs, ys, _, _, qx, qy, hx, hy⟩, Pv (i + 1), fun H' p' => ⟨n - (i + 1), by omega, rfl, hlt, p'⟩, fun v H' z => ?_⟩
    obtain ⟨T, x, y, rfl, hT, rfl, z1, z2⟩ := z
    exact hs i x y T H (z1 _ qx) (z2 _ qy) p hT
  · have e : i = n := by omega
    subst e
    exact .inl ⟨⟨xs, ys, qx, qy, by omega⟩, hd H p⟩

end
/-- what more the module's names stand for -/
structure Nm2 (mg : Str → Option Value) : Prop where
  zip : mg "zip" = none
  max : mg "max" = none
  sum : mg "sum" = none
  enumerate : mg "enumerate" = none
  dict : mg "dict" = none
  sorted : mg "sorted" = none
  set : mg "set" = none
  GREATEST_RANK : ∃ t, mg "GREATEST_RANK" = some (.int 6 t)
  LEAF : ∃ t, mg "LEAF" = some (.int 1 t)
  NODE : ∃ t, mg "NODE" = some (.int 2 t)
def risD (ds : List PyData) : Bool := (ds.zip (ds.drop 1)).all fun e => ltD e.1 e.2
def OrdK (ds : List PyData) : Prop := ds.length ≤ 100000 ∧ (∀ d ∈ ds, keyT d = true ∧ dpD d ≤ 60) ∧ ∀ d ∈ ds, ∀ e ∈ ds, canD d e = true
theorem hu64 {k : Nat} {A : Around} (hr : Room k A) : A.units + 64 < cLine := by
  have := hr.un
  omega
theorem cut1 (xs : List V) : cutV xs (some 1) none = xs.drop 1 := by
  unfold cutV
  have e : HT.sIx xs.length 0 (some 1) = min 1 xs.length := HT.sIx_nat _ _ 1
  rw [e, HT.sIx_none]
  cases xs with
  | nil => rfl
  | cons x r =>
    have e2 : min 1 (x :: r).length = 1 := by rw [List.length_cons]; omega
    rw [e2]
    show List.take ((x :: r).length - 1) r = r
    exact List.take_of_length_le (by simp)
section
variable {P : Program} {w : World} {K : PySem.W.Frag} {mg : Str → Option Value} {base : Heap}
def spRis (K : PySem.W.Frag) : Sp := fun vs H Q _ => ∃ (a : Addr) (ys : List V) (ds : List PyData), vs = [.ref a] ∧ SqL K H a ys ∧ DdAll K H ys ds ∧ OrdK ds ∧ ∀ H', Same H H' → Q (.bl (risD ds)) H'
theorem call_ris {t : TE} {σ : L2.St} {H1 : Hp} {Q : VK} (h : t σ H1 fun v H2 => ∃ (a : Addr) (ys : List V) (ds : List PyData), [v] = [.ref a] ∧ SqL K H2 a ys ∧ DdAll K H2 ys ds ∧ OrdK ds ∧ ∀ H', Same H2 H' → Q (.bl (risD ds)) H') : tCall (spRis K) [] E0 (tCons t tNil) σ H1 Q := h
theorem tnot_b {t : TE} {σ : L2.St} {H1 : Hp} {Q : Bool → Hp → Prop} (h : t σ H1 fun v H2 => ∃ b, v = .bl b ∧ Q (!b) H2) : tNot (tB t) σ H1 Q := h
theorem tifs {c : TT} {a b : TS} {D : Ends} {σ : L2.St} {H1 : Hp} (h : c σ H1 fun k H2 => if k = true then a D σ H2 else b D σ H2) : tIfS c a b D σ H1 := h
theorem scRising : FnScope ["keys", "low", "high"] ["keys"] (defScope sRising) := ⟨rfl, rfl, rfl, by decide +kernel, rfl, by decide +kernel, by decide +kernel⟩
theorem ok_rising {f : Addr} {fd : FuncData} (F : FnP K "is_rising" sRising f fd) (M : Nm mg) (M2 : Nm2 mg) : FnOk P w K mg base CX0 1 f fd ["keys"] (spRis K) := by
  refine F.ok scRising (fun vs H Q E h => ?_) (fun cdv A outer s H vs Q E hr h => ?_)
  · obtain ⟨a, ys, ds, rfl, _⟩ := h
    rfl
  obtain ⟨a, ys, ds, rfl, hS, hd, ⟨hz, hk, hc⟩, q⟩ := h
  refine ⟨_, PSs.nox (pss_one (ps_ret (pe_callB (r := rAll K) (cr_all rfl) (by rfl) M.all (by decide +kernel) (pa_cons (pe_lc (own := [("low", 1), ("high", 2)]) (g := gTup K 2 (gCons (gName 1) (gCons (gName 2) gNil))) (tt := tYes) (by rfl) scRising.nd (pi_zip (by rfl) M2.zip (pa_cons (pv 0) (pa_cons (pe_slice sl_list (pv 0) (po_some pe_int) po_none) pa_nil))) (blkOk_by (N := ["keys", "low", "high"]) (sc := defScope sRising) (by decide +kernel)) (fun _ _ _ _ _ => (pg_tup rfl (pgs_cons (pg_name (i := 1) scRising.nd rfl (Or.inl rfl)) (pgs_cons (pg_name (i := 2) scRising.nd rfl (Or.inl rfl)) pgs_nil)))) (fun _ _ _ _ _ => pts_nil) (fun _ _ _ _ _ => (pe_cmpR (r := rLtK K) (op_ltK (hu64 hr)) (pv 1) (pv 2) (nomark _)))) pa_nil)))), ?_⟩
  refine ⟨_, rfl, _, rfl, _, rfl, a, ys, rfl, hS, fun p np => ?_⟩
  rw [cut1]
  have sp := same_up (o := .lst (ys.drop 1)) np
  refine ⟨a, p, ys, ys.drop 1, rfl, Same.seq sp hS, SqL.of upd_same, fun D hD => ?_⟩
  have sD := sp.trans (same_up (o := .lst []) hD)
  have hl : ys.length = ds.length := dall_len hd
  have hzl : (ds.zip (ds.drop 1)).length = min ys.length (ys.drop 1).length := by rw [List.length_zip, List.length_drop, List.length_drop, hl]
  refine lc_zip (xs := ys) (ys := ys.drop 1) (ds.zip (ds.drop 1)).length hzl (fun i H' => Same (upd H p (.lst (ys.drop 1))) H' ∧ H' D = some (.lst ((((ds.zip (ds.drop 1)).map fun e => ltD e.1 e.2).take i).map V.bl))) ⟨same_up hD, upd_same⟩ (fun i H' e => ⟨Same.seq (sp.trans e.1) hS, SqL.of (e.1 _ _ upd_same)⟩) (fun i x y T H' hx hy e hT => ?_) (fun H1 e => ?_)
  · obtain ⟨d1, e1, g1⟩ := dall_at' hd hx
    obtain ⟨d2, e2, g2⟩ := dall_at' (dall_drop 1 hd) hy
    have ez : (ds.zip (ds.drop 1))[i]? = some (d1, d2) := by
      rw [List.getElem?_zip_eq_some]
      exact ⟨e1, e2⟩
    have sT := same_up (o := .tup [x, y]) hT
    have m1 := List.mem_of_getElem? e1
    have m2 := List.mem_of_mem_drop (List.mem_of_getElem? e2)
    refine ⟨T, _, rfl, .inl (.inl upd_same), rfl, _, _, rfl, _, _, rfl, rfl, rfl, _, rfl, _, rfl, d1, d2, g1.same (sp.trans (e.1.trans sT)), g2.same (sp.trans (e.1.trans sT)), (hk _ m1).1, (hk _ m2).1, hc _ m1 _ m2, (hk _ m1).2, (hk _ m2).2, ?_⟩
    exact grow (by rw [List.getElem?_map, ez]; rfl) (by rw [List.length_map, List.length_zip]; omega) hD ⟨e.1.trans sT, sT _ _ e.2⟩ (Same.refl _)
  · rw [← List.length_map (f := fun e : PyData × PyData => ltD e.1 e.2)] at e
    exact fin_all e fun H4 s4 => by
      have z := q H4 (sp.trans s4)
      rw [allB]
      exact z
/-! ### facts -/
theorem worth_kind {d : PyData} (h : worthD d = true) : (∃ i, d = .int i) ∨ ∃ x, d = .str x := by
  rcases Bool.or_eq_true_iff.mp h with h | h
  · exact .inl (intD_of h)
  · cases d with
    | str x => exact .inr ⟨x, rfl⟩
    | _ => cases h
def WorthK (d : PyData) : Prop := (∃ i, d = .int i) ∨ ∃ x, d = .str x
theorem WorthK.key {d : PyData} (h : WorthK d) : keyT d = true ∧ dpD d = 0 := by
  rcases h with ⟨i, rfl⟩ | ⟨x, rfl⟩ <;> exact ⟨by unfold keyT; rfl, by unfold dpD; rfl⟩
/-- a fact by its parts -/
theorem fact_row {d : PyData} (o : okD d = true) (h : factD d = true) : ∃ n ws, d = .tuple [.str n, .tuple ws] ∧ 1 ≤ ws.length ∧ ws.length ≤ 5 ∧ ∀ x ∈ ws, WorthK x := by
  obtain ⟨n, ws, rfl, _, _, l, hl⟩ := fact_parts o h
  refine ⟨n, ws, rfl, ?_, l, fun x hx => (hl x hx).2.imp id fun ⟨y, e, _⟩ => ⟨y, e⟩⟩
  rcases Nat.eq_zero_or_pos ws.length with z | z
  · have e : ws = [] := List.length_eq_zero_iff.mp z
    subst e
    exfalso
    obtain ⟨_, h2⟩ := Bool.and_eq_true_iff.mp (show (nameD (.str n) && (if isR (.str n) = true then ruleD (.tuple []) else rowD (.tuple []))) = true from h)
    cases hr : isR (.str n) with
    | true =>
      rw [hr, if_pos rfl] at h2
      cases h2
    | false =>
      rw [hr, if_neg Bool.false_ne_true] at h2
      cases h2
  · exact z
theorem keyTs_worths {ws : List PyData} (h : ∀ x ∈ ws, WorthK x) : keyTs ws = true := keyTs_of fun d m => (h d m).key.1
theorem fact_key {d : PyData} (o : okD d = true) (h : factD d = true) : FactK d ∧ keyT d = true := by
  obtain ⟨n, ws, rfl, l0, l, hw⟩ := fact_row o h
  have k := keyTs_worths hw
  refine ⟨⟨.str n, .tuple ws, rfl, by unfold keyT; rfl, ws, rfl, by omega, k⟩, ?_⟩
  simp only [keyT, keyTs]
  rw [k]
  rfl
theorem wk_can {x y : PyData} (hx : WorthK x) (hy : WorthK y) : canD (wkD x) (wkD y) = true := by
  rcases hx with ⟨i, rfl⟩ | ⟨u, rfl⟩ <;> rcases hy with ⟨j, rfl⟩ | ⟨v, rfl⟩ <;> simp [wkD, isS, canD, canDs, eqD]
theorem wks_can : ∀ {xs ys : List PyData}, (∀ x ∈ xs, WorthK x) → (∀ y ∈ ys, WorthK y) → canDs (xs.map wkD) (ys.map wkD) = true
  | [], ys, _, _ => by
    unfold List.map canDs
    rfl
  | x :: r, [], _, _ => by
    rw [List.map_cons]
    unfold canDs
    rfl
  | x :: r, y :: q, hx, hy => by
    rw [List.map_cons, List.map_cons]
    unfold canDs
    show (if eqD (wkD x) (wkD y) = true then canDs (r.map wkD) (q.map wkD) else canD (wkD x) (wkD y)) = true
    rw [wks_can (fun z m => hx z (List.mem_cons_of_mem _ m)) (fun z m => hy z (List.mem_cons_of_mem _ m)), wk_can (hx x List.mem_cons_self) (hy y List.mem_cons_self)]
    split <;> rfl
theorem fk_can {d e : PyData} (od : okD d = true) (hd : factD d = true) (oe : okD e = true) (he : factD e = true) : canD (fkD d) (fkD e) = true := by
  obtain ⟨n, ws, rfl, _, _, hw⟩ := fact_row od hd
  obtain ⟨m, us, rfl, _, _, hu⟩ := fact_row oe he
  have k := wks_can hw hu
  unfold fkD rkD partsD
  simp only [canD, canDs]
  split
  · rw [k]
    simp
  · rfl
theorem wks_dp : ∀ {xs : List PyData}, (∀ x ∈ xs, WorthK x) → dpDs (xs.map wkD) ≤ 1
  | [], _ => by
    unfold List.map dpDs
    omega
  | x :: r, h => by
    have ih := wks_dp (xs := r) fun z m => h z (List.mem_cons_of_mem _ m)
    have h0 := (h x List.mem_cons_self).key.2
    rw [List.map_cons]
    unfold dpDs
    have h1 : dpD (wkD x) ≤ 1 := by
      unfold wkD
      simp only [dpD, dpDs]
      rw [h0]
      simp
    omega
theorem fk_key {d : PyData} (o : okD d = true) (h : factD d = true) : keyT (fkD d) = true ∧ dpD (fkD d) ≤ 60 := by
  obtain ⟨n, ws, rfl, l0, l, hw⟩ := fact_row o h
  have k := keyTs_worths hw
  have k2 := rk_key (d := .tuple ws) ⟨ws, rfl, by omega, k⟩
  have k3 := wks_dp hw
  unfold fkD
  refine ⟨?_, ?_⟩
  · simp only [keyT, keyTs]
    rw [k2]
    rfl
  · unfold rkD partsD
    simp only [dpD, dpDs]
    omega
theorem fks_ord {ds : List PyData} (hz : ds.length ≤ 100000) (h : ∀ d ∈ ds, okD d = true ∧ factD d = true) : OrdK (ds.map fkD) := by
  refine ⟨by rw [List.length_map]; exact hz, fun e he => ?_, fun e he u hu => ?_⟩
  · obtain ⟨d, hd, rfl⟩ := List.mem_map.mp he
    exact fk_key (h d hd).1 (h d hd).2
  · obtain ⟨d, hd, rfl⟩ := List.mem_map.mp he
    obtain ⟨c, hc, rfl⟩ := List.mem_map.mp hu
    exact fk_can (h d hd).1 (h d hd).2 (h c hc).1 (h c hc).2
/-- facts that are let -/
def FactsK (ds : List PyData) : Prop := ds.length ≤ 4000 ∧ (∀ d ∈ ds, okD d = true ∧ factD d = true) ∧ risD (ds.map fkD) = true
def spCkF (K : PySem.W.Frag) : Sp := fun vs H Q _ => ∃ (v : V) (ds : List PyData), vs = [v] ∧ Dd K H v (.tuple ds) ∧ FactsK ds ∧ ∀ H', Same H H' → Q .non H'
theorem scCkF : FnScope ["thing", "part", "fact"] ["thing"] (defScope sCkF) := ⟨rfl, rfl, rfl, by decide +kernel, rfl, by decide +kernel, by decide +kernel⟩
theorem ok_ckf {f : Addr} {fd : FuncData} (F : FnP K "check_facts" sCkF f fd) (M : Nm mg) (DFc : DA P w K mg base "is_fact" 4 factD) (DK : DK P w K mg base "fact_key" 3 "fact" FactK fkD) (DG : Df P w K mg base "is_rising" 1 ["keys"] (spRis K)) : FnOk P w K mg base CX0 5 f fd ["thing"] (spCkF K) := by
  refine F.ok scCkF (fun vs H Q E h => ?_) (fun cdv A outer s H vs Q E hr h => ?_)
  · obtain ⟨v, ds, rfl, _⟩ := h
    rfl
  obtain ⟨v, ds, rfl, hd, ⟨hz, hf, hs⟩, q⟩ := h
  refine ⟨_, PSs.nox (pss_cons (ps_if (PW.pt (pw_or (pt_not (pt_val (pe_callB (id := "isinstance") (r := rIsi K) call_isi (by rfl) M.isinstance (by decide +kernel) (pa_cons (pv 0) (pa_cons (ty_cls (n := "tuple") M.tuple (by rfl) (by decide +kernel)) pa_nil))))) (pw_or1 (pt_not (pt_val (pe_callB (r := rAll K) (cr_all rfl) (by rfl) M.all (by decide +kernel) (pa_cons (pe_lc (own := [("part", 1)]) (g := gName 1) (tt := tYes) (by rfl) scCkF.nd (pi_tup (pv 0)) (blkOk_by (N := ["thing", "part", "fact"]) (sc := defScope sCkF) (by decide +kernel)) (fun _ _ _ _ _ => pg_name (i := 1) scCkF.nd rfl (Or.inl rfl)) (fun _ _ _ _ _ => pts_nil) (fun _ _ _ _ _ => (pe_df DFc hr (by decide) (pa_cons (pv 1) pa_nil)))) pa_nil))))))) (pss_one (ps_never)) pss_nil)
      (pss_one (ps_if (pt_not (pt_val (pe_df DG hr (by decide) (pa_cons (pe_lc (own := [("fact", 2)]) (g := gName 2) (tt := tYes) (by rfl) scCkF.nd (pi_tup (pv 0)) (blkOk_by (N := ["thing", "part", "fact"]) (sc := defScope sCkF) (by decide +kernel)) (fun _ _ _ _ _ => pg_name (i := 2) scCkF.nd rfl (Or.inl rfl)) (fun _ _ _ _ _ => pts_nil) (fun _ _ _ _ _ => (pe_df DK hr (by decide) (pa_cons (pv 2) pa_nil)))) pa_nil)))) (pss_one (ps_never)) pss_nil))), ?_⟩
  have hv : YV K (tVar 0) [some v, none, none] H (.tuple ds) := yv_var rfl hd
  obtain ⟨a, xs, rfl, h0, h2⟩ := ofTup hd
  refine ⟨_, rfl, _, _, _, _, _, rfl, .ty _, tyx hd, kit_ty (kT _), _, rfl, tst (fun e => by cases e) fun _ => ?_⟩
  refine all_tup (p := factD) (i := 0) (j := 1) (fun Q' q' => ⟨_, rfl, q'⟩) h0.sq h2 hz (fun _ => rfl) (fun v d H' Q m s hd q => ⟨_, rfl, v, d, rfl, hd, (hf d m).1, q⟩) fun H1 s1 => ?_
  rw [show ds.all factD = true from List.all_eq_true.mpr fun d m => (hf d m).2]
  refine ⟨_, rfl, tst (fun e => by cases e) fun _ => ?_⟩
  dsimp only [tNext]
  refine tifs (tnot_b (call_ris ?_))
  refine lk_tup (σ := [some (V.ref a), none, none]) (f := fkD) (m := 2) (yv_var (m := 0) (H := H) rfl hd) (by omega) (fun _ => rfl) (fun v d H' m s hd' => yv_df (yv_var (m := 2) (v := v) rfl hd') (fact_key (hf d m).1 (hf d m).2).1) (fun d m => (fk_key (hf d m).1 (hf d m).2).1) s1 fun D ys H2 s2 hD hys => ?_
  refine ⟨D, ys, _, rfl, SqL.of hD, hys, fks_ord (by omega) hf, fun H3 s3 => ⟨_, rfl, ?_⟩⟩
  rw [hs]
  refine tst (fun e => by cases e) fun _ => ?_
  exact q H3 ((s1.trans s2).trans s3)
def spCkP (K : PySem.W.Frag) : Sp := fun vs H Q _ => ∃ (v : V) (d : PyData), vs = [v] ∧ Dd K H v d ∧ okD d = true ∧ primeD d = true ∧ ∀ H', Same H H' → Q .non H'
theorem scCkP : FnScope ["thing"] ["thing"] (defScope sCkP) := ⟨rfl, rfl, rfl, by decide +kernel, rfl, by decide +kernel, by decide +kernel⟩
theorem ok_ckp {f : Addr} {fd : FuncData} (F : FnP K "check_prime" sCkP f fd) (DP : DA P w K mg base "is_prime" 2 primeD) : FnOk P w K mg base CX0 3 f fd ["thing"] (spCkP K) := by
  refine F.ok scCkP (fun vs H Q E h => ?_) (fun cdv A outer s H vs Q E hr h => ?_)
  · obtain ⟨v, d, rfl, _⟩ := h
    rfl
  obtain ⟨v, d, rfl, hd, ok, hp, q⟩ := h
  refine ⟨_, PSs.nox (pss_one (ps_if (pt_not (pt_val (pe_df DP hr (by decide) (pa_cons (pv 0) pa_nil)))) (pss_one (ps_never)) pss_nil)), ?_⟩
  refine ⟨_, rfl, v, d, rfl, hd, ok, fun H1 s1 => ⟨_, rfl, ?_⟩⟩
  rw [hp]
  exact tst (fun e => by cases e) fun _ => q H1 s1
end
end Sm
/-! Ranks; lists of numbers as texts. -/
namespace Sm
open PySem PySem.Spec PyProof.Rows L2 Vd RZ
def rkF : Nat → Int → Nat
  | 0, _ => 0
  | k + 1, l => if l % 4 = 0 then rkF k (l / 4) + 1 else 0
def rkI (n : Int) : Nat := rkF 6 (n + 1)
theorem rkF_le : ∀ (k : Nat) (l : Int), rkF k l ≤ k
  | 0, _ => Nat.le_refl _
  | k + 1, l => by
    unfold rkF
    split
    · have := rkF_le k (l / 4)
      omega
    · omega
theorem rkI_le (n : Int) : rkI n ≤ 6 := rkF_le 6 _
/-- the number of a fact -/
def nmF (p : Int) (d : PyData) : Int := mixF p (ftext d)
theorem mixF_rng {p : Int} (p0 : 1 < p) (x : Str) : 0 ≤ mixF p x ∧ mixF p x < p := by
  have key : ∀ (l : List Nat) (m : Int), 0 ≤ m ∧ m < p → 0 ≤ l.foldl (mixS p) m ∧ l.foldl (mixS p) m < p := fun l => by
    induction l with
    | nil => exact fun m h => h
    | cons c r ih => exact fun m h => ih _ ⟨Int.emod_nonneg _ (by omega), Int.emod_lt_of_pos _ (by omega)⟩
  exact key _ 1 ⟨by omega, p0⟩
def intT (n : Int) : Str := (toString n : Str)
def nText (ns : List Int) : Str := Txt.join ("," : Str) (ns.map intT)
theorem intT_len {n : Int} (h : n.natAbs < 2 ^ 200) : (intT n).length ≤ 201 ∧ n.natAbs.log2 < 1920 := by
  have h0 := PySem.Flt.log2_lt_of (by decide) h
  have h1 := int_text_length_le (a := n) (k := 200) (by decide) h0
  refine ⟨?_, by omega⟩
  show (Str.ofString (toString n)).length ≤ 201
  rw [PySem.ofString_length]
  omega
theorem nText_len {ns : List Int} (hz : ns.length ≤ 20000) (h : ∀ n ∈ ns, n.natAbs < 2 ^ 200) : ((ns.map intT).map (·.length)).sum + (ns.map intT).length * (("," : Str)).length ≤ 16777216 := by
  have key : ∀ ms : List Int, (∀ n ∈ ms, n.natAbs < 2 ^ 200) → ((ms.map intT).map (·.length)).sum ≤ 201 * ms.length := fun ms => by
    induction ms with
    | nil => exact fun _ => Nat.le_refl _
    | cons m r ih =>
      intro hm
      have h1 := ih fun n hn => hm n (List.mem_cons_of_mem _ hn)
      have h2 := (intT_len (hm m List.mem_cons_self)).1
      rw [List.map_cons, List.map_cons, List.sum_cons, List.length_cons]
      omega
  have h1 := key ns h
  rw [List.length_map, show (("," : Str)).length = 1 from by decide]
  omega
theorem nText_sml (ns : List Int) : Sml (nText ns) := sml_join (sml_of _) fun y hy => by
  obtain ⟨n, _, rfl⟩ := List.mem_map.mp hy
  exact sml_of _
section
variable {P : Program} {w : World} {K : PySem.W.Frag} {mg : Str → Option Value} {base : Heap}
def spRank : Sp := fun vs H Q _ => ∃ n : Int, vs = [.int n] ∧ Q (.int (rkI n)) H
theorem scRank : FnScope ["number", "rank", "left"] ["number"] (defScope sRank) := ⟨rfl, rfl, rfl, by decide +kernel, rfl, by decide +kernel, by decide +kernel⟩
theorem ok_rank {f : Addr} {fd : FuncData} (F : FnP K "rank_of" sRank f fd) (M2 : Nm2 mg) : FnOk P w K mg base CX0 1 f fd ["number"] spRank := by
  refine F.ok scRank (fun vs H Q E h => ?_) (fun cdv A outer s H vs Q E hr h => ?_)
  · obtain ⟨n, rfl, _⟩ := h
    rfl
  obtain ⟨n, rfl, q⟩ := h
  refine ⟨_, PSs.nox (pss_cons (ps_set (i := 1) scRank.nd rfl (Or.inl rfl) pe_int)
      (pss_cons (ps_set (i := 2) scRank.nd rfl (Or.inl rfl) (pe_op op_add (pv 0) pe_int))
      (pss_cons (ps_while PassesOwn.never (PW.pt (pw_and (pt_cmpR op_lt (pv 1) (pe_glob (v := .int 6) (by rfl) (M2.GREATEST_RANK).choose_spec ⟨_, rfl⟩) (nomark _)) (pw_and1 (pt_cmpR op_eq (pe_op op_mod (pv 2) pe_int) pe_int (nomark _))))) (pss_cons (ps_aug (i := 1) scRank.nd rfl (Or.inl rfl) pe_int ip_add)
      (pss_one (ps_set (i := 2) scRank.nd rfl (Or.inl rfl) (pe_op op_fdiv (pv 2) pe_int)))))
      (pss_one (ps_ret (pv 1)))))), ?_⟩
  refine ⟨_, rfl, _, _, rfl, rfl, ?_⟩
  refine ⟨fun m σ H' => H' = H ∧ ∃ (r : Nat) (l : Int), σ = [some (.int n), some (.int r), some (.int l)] ∧ m = 6 - r ∧ r ≤ 6 ∧ r + rkF (6 - r) l = rkI n, ⟨6, rfl, 0, n + 1, rfl, rfl, by decide, by rw [Nat.zero_add]; rfl⟩, ?_⟩
  rintro m σ H' ⟨rfl, r, l, rfl, rfl, hr6, e⟩
  have stop : rkF (6 - r) l = 0 → (r : Int) = (rkI n : Int) := fun z => by
    rw [z] at e
    omega
  refine ⟨_, rfl, _, _, rfl, rfl, _, rfl, tst (fun e1 => ?_) fun e1 => ?_⟩
  · have h1 := of_decide_eq_true e1
    obtain ⟨k, hk⟩ : ∃ k, 6 - r = k + 1 := ⟨5 - r, by omega⟩
    rw [hk] at e stop
    refine ⟨_, rfl, _, _, rfl, rfl, (show (0 : Int) < 4 from by decide), rfl, _, rfl, tst (fun e2 => ?_) fun e2 => ?_⟩
    · have h2 : l % 4 = 0 := by
        rw [dec_int] at e2
        exact eq_of_beq e2
      refine ⟨fun σ' H2 => H2 = H' ∧ ∃ (r' : Nat) (l : Int), σ' = [some (.int n), some (.int r'), some (.int l)] ∧ r' = r + 1 ∧ r' ≤ 6 ∧ r' + rkF (6 - r') l = rkI n, fun σ' H2 z => ?_, _, rfl, _, _, rfl, rfl, _, rfl, _, _, rfl, rfl, ⟨by decide, by decide⟩, rfl, r + 1, l / 4, rfl, rfl, by omega, ?_⟩
      · obtain ⟨rfl, r', l', rfl, rfl, h6, e'⟩ := z
        exact ⟨6 - (r + 1), by omega, rfl, r + 1, l', rfl, rfl, h6, e'⟩
      · unfold rkF at e
        rw [if_pos h2] at e
        rw [show 6 - (r + 1) = k by omega]
        omega
    · have h2 : ¬ l % 4 = 0 := by
        rw [dec_int] at e2
        exact beq_eq_false_iff_ne.mp e2
      refine ⟨_, rfl, ?_⟩
      rw [stop (by unfold rkF; rw [if_neg h2])]
      exact q
  · have h1 := of_decide_eq_false e1
    refine ⟨_, rfl, ?_⟩
    rw [stop (by rw [show 6 - r = 0 by omega]; rfl)]
    exact q
def spLRank (K : PySem.W.Frag) : Sp := fun vs H Q _ => ∃ (p : Int) (v : V) (d : PyData), vs = [.int p, v] ∧ 0 < p ∧ p ≤ 170141183460469231731687303715884105728 ∧ Dd K H v d ∧ okD d = true ∧ factD d = true ∧ ∀ H', Same H H' → Q (.int (rkI (nmF p d))) H'
theorem scLRank : FnScope ["p", "fact", "number", "found"] ["p", "fact"] (defScope sLRank) := ⟨rfl, rfl, rfl, by decide +kernel, rfl, by decide +kernel, by decide +kernel⟩
theorem ok_lrank {f : Addr} {fd : FuncData} (F : FnP K "_law_rank" sLRank f fd) (M : Nm mg) (DN : Df P w K mg base "_law_number" 3 ["p", "fact"] (spNum K)) : FnOk P w K mg base CX0 4 f fd ["p", "fact"] (spLRank K) := by
  refine F.ok scLRank (fun vs H Q E h => ?_) (fun cdv A outer s H vs Q E hr h => ?_)
  · obtain ⟨p, v, d, rfl, _⟩ := h
    rfl
  obtain ⟨p, v, d, rfl, p0, p1, hd, ok, hf, q⟩ := h
  refine ⟨_, PSs.nox (pss_cons (ps_par (i := 2) (j := 3) (by rfl) scLRank.nd rfl rfl (by decide) rfl rfl (pa_cons (pe_op op_add (pe_df DN hr (by decide) (pa_cons (pv 0) (pa_cons (pv 1) pa_nil))) pe_int) (pa_cons pe_int pa_nil)) (by rfl))
      (pss_cons (ps_while PassesOwn.never (PW.pt (pw_and (pt_cmpR op_lt (pv 3) pe_int (nomark _)) (pw_and1 (pt_cmpR op_eq (pe_op op_mod (pe_callTy call_int1 (by rfl) M.int (by decide +kernel) (pa_cons (pv 2) pa_nil)) pe_int) pe_int (nomark _))))) (pss_one (ps_par (i := 2) (j := 3) (by rfl) scLRank.nd rfl rfl (by decide) rfl rfl (pa_cons (pe_op op_fdiv (pv 2) pe_int) (pa_cons (pe_op op_add (pv 3) pe_int) pa_nil)) (by rfl))))
      (pss_one (ps_ret (pv 3))))), ?_⟩
  refine ⟨_, rfl, _, rfl, p, v, d, rfl, p0, p1, hd, ok, hf, fun H1 s1 => ⟨_, _, rfl, rfl, _, _, rfl, ?_⟩⟩
  generalize hn : nmF p d = n at q
  have hn' : mixF p (ftext d) = n := hn
  rw [hn']
  refine ⟨fun m σ H' => H' = H1 ∧ ∃ (r : Nat) (l : Int), σ = [some (.int p), some v, some (.int l), some (.int r)] ∧ m = 6 - r ∧ r ≤ 6 ∧ r + rkF (6 - r) l = rkI n, ⟨6, rfl, 0, n + 1, rfl, rfl, by decide, by rw [Nat.zero_add]; rfl⟩, ?_⟩
  rintro m σ H' ⟨rfl, r, l, rfl, rfl, hr6, e⟩
  have stop : rkF (6 - r) l = 0 → (r : Int) = (rkI n : Int) := fun z => by
    rw [z] at e
    omega
  refine ⟨_, rfl, _, _, rfl, rfl, _, rfl, tst (fun e1 => ?_) fun e1 => ?_⟩
  · have h1 := of_decide_eq_true e1
    obtain ⟨k, hk⟩ : ∃ k, 6 - r = k + 1 := ⟨5 - r, by omega⟩
    rw [hk] at e stop
    refine ⟨_, rfl, .inl ⟨_, rfl, _, _, rfl, rfl, (show (0 : Int) < 4 from by decide), rfl, _, rfl, tst (fun e2 => ?_) fun e2 => ?_⟩⟩
    · have h2 : l % 4 = 0 := by
        rw [dec_int] at e2
        exact eq_of_beq e2
      refine ⟨fun σ' H2 => H2 = H' ∧ ∃ (r' : Nat) (l : Int), σ' = [some (.int p), some v, some (.int l), some (.int r')] ∧ r' = r + 1 ∧ r' ≤ 6 ∧ r' + rkF (6 - r') l = rkI n, fun σ' H2 z => ?_, _, rfl, _, _, rfl, rfl, ⟨by decide, by decide⟩, _, rfl, _, _, rfl, rfl, _, _, rfl, rfl, r + 1, l / 4, rfl, rfl, by omega, ?_⟩
      · obtain ⟨rfl, r', l', rfl, rfl, h6, e'⟩ := z
        exact ⟨6 - (r + 1), by omega, rfl, r + 1, l', rfl, rfl, h6, e'⟩
      · unfold rkF at e
        rw [if_pos h2] at e
        rw [show 6 - (r + 1) = k by omega]
        omega
    · have h2 : ¬ l % 4 = 0 := by
        rw [dec_int] at e2
        exact beq_eq_false_iff_ne.mp e2
      refine ⟨_, rfl, ?_⟩
      rw [stop (by unfold rkF; rw [if_neg h2])]
      exact q _ s1
  · have h1 := of_decide_eq_false e1
    refine ⟨_, rfl, ?_⟩
    rw [stop (by rw [show 6 - r = 0 by omega]; rfl)]
    exact q _ s1
def spNText (K : PySem.W.Frag) : Sp := fun vs H Q _ => ∃ (a : Addr) (ns : List Int), vs = [.ref a] ∧ SqL K H a (ns.map V.int) ∧ ns.length ≤ 20000 ∧ (∀ n ∈ ns, n.natAbs < 2 ^ 200) ∧ ∀ H', Same H H' → Q (.str (nText ns)) H'
theorem ntext_run {K : PySem.W.Frag} {a : Addr} {ns : List Int} {H : Hp} {Q : VK} (hS : SqL K H a (ns.map V.int)) (hz : ns.length ≤ 20000) (hn : ∀ n ∈ ns, n.natAbs < 2 ^ 200) (q : ∀ H', Same H H' → Q (.str (nText ns)) H') {te : TE} (hte : ∀ (n : Int) (H' : Hp) (Q' : VK), n ∈ ns → Q' (.str (intT n)) H' → te [some (.ref a), some (.int n)] H' Q') :
    (∃ x : Str, V.str ("," : Str) = .str x) ∧ tLc (iList K (tVar 0)) (gName 1) tYes te [1] [some (.ref a), none] H fun y H2 => ∃ (b : Str) (p : Addr) (ys : List Str), V.str ("," : Str) = .str b ∧ [y] = [.ref p] ∧ (SqL K H2 p (ys.map V.str) ∨ SqT K H2 p (ys.map V.str)) ∧ (ys.map (·.length)).sum + ys.length * b.length ≤ 16777216 ∧ Q (.str (Txt.join b ys)) H2 := by
  refine ⟨⟨_, rfl⟩, _, rfl, a, rfl, ⟨_, hS⟩, fun D hD => ?_⟩
  refine lc_list (xs := ns.map V.int) (fun i H' => Same H H' ∧ H' D = some (.lst (((ns.map intT).take i).map V.str))) ⟨same_up hD, upd_same⟩ (fun i H' _ e => Same.seq e.1 hS) (fun i x H' hx e => ?_) (fun H1 e => ?_)
  · obtain ⟨n, h1, rfl⟩ : ∃ n, ns[i]? = some n ∧ x = V.int n := by
      rw [List.getElem?_map] at hx
      obtain ⟨n, h1, h2⟩ := Option.map_eq_some_iff.mp hx
      exact ⟨n, h1, h2.symm⟩
    have il : i < ns.length := (List.getElem?_eq_some_iff.mp h1).1
    refine ⟨rfl, hte n H' _ (List.mem_of_getElem? h1) ⟨_, e.2, ?_, ?_, ?_⟩⟩
    · rw [List.length_map, List.length_take, List.length_map, sizeLine_eq]
      omega
    · intro c o z
      rw [upd_ne (ne_of_none z hD)]
      exact e.1 c o z
    · rw [upd_same, List.take_add_one, List.getElem?_map, h1, List.map_append]
      rfl
  · refine ⟨_, D, ns.map intT, rfl, rfl, .inl (SqL.of (by rw [e.2, List.take_of_length_le (by rw [List.length_map, List.length_map]; exact Nat.le_refl _)])), nText_len hz hn, q H1 e.1⟩
theorem scNText : FnScope ["numbers", "number"] ["numbers"] (defScope sNText) := ⟨rfl, rfl, rfl, by decide +kernel, rfl, by decide +kernel, by decide +kernel⟩
theorem ok_ntext {f : Addr} {fd : FuncData} (F : FnP K "numbers_text" sNText f fd) (M : Nm mg) : FnOk P w K mg base CX0 1 f fd ["numbers"] (spNText K) := by
  refine F.ok scNText (fun vs H Q E h => ?_) (fun cdv A outer s H vs Q E hr h => ?_)
  · obtain ⟨a, ns, rfl, _⟩ := h
    rfl
  obtain ⟨a, ns, rfl, hS, hz, hn, q⟩ := h
  refine ⟨_, PSs.nox (pss_one (ps_ret (pe_join pe_str (pe_lc (own := [("number", 1)]) (g := gName 1) (tt := tYes) (by rfl) scNText.nd (pi_list (pv 0)) (blkOk_by (N := ["numbers", "number"]) (sc := defScope sNText) (by decide +kernel)) (fun _ _ _ _ _ => pg_name (i := 1) scNText.nd rfl (Or.inl rfl)) (fun _ _ _ _ _ => pts_nil) (fun _ _ _ _ _ => (pe_callTy call_str_int (by rfl) M.str (by decide +kernel) (pa_cons (pv 1) pa_nil))))))), ?_⟩
  exact ntext_run hS hz hn q fun n H' Q' m z => ⟨_, rfl, _, rfl, (intT_len (hn n m)).2, z⟩
theorem scLText : FnScope ["numbers", "number"] ["numbers"] (defScope sLText) := ⟨rfl, rfl, rfl, by decide +kernel, rfl, by decide +kernel, by decide +kernel⟩
theorem ok_ltext {f : Addr} {fd : FuncData} (F : FnP K "_law_list_text" sLText f fd) (M : Nm mg) : FnOk P w K mg base CX0 1 f fd ["numbers"] (spNText K) := by
  refine F.ok scLText (fun vs H Q E h => ?_) (fun cdv A outer s H vs Q E hr h => ?_)
  · obtain ⟨a, ns, rfl, _⟩ := h
    rfl
  obtain ⟨a, ns, rfl, hS, hz, hn, q⟩ := h
  refine ⟨_, PSs.nox (pss_one (ps_ret (pe_join pe_str (pe_lc (own := [("number", 1)]) (g := gName 1) (tt := tYes) (by rfl) scLText.nd (pi_list (pv 0)) (blkOk_by (N := ["numbers", "number"]) (sc := defScope sLText) (by decide +kernel)) (fun _ _ _ _ _ => pg_name (i := 1) scLText.nd rfl (Or.inl rfl)) (fun _ _ _ _ _ => pts_nil) (fun _ _ _ _ _ => (pe_callTy call_str_int (by rfl) M.str (by decide +kernel) (pa_cons (pv 1) pa_nil))))))), ?_⟩
  exact ntext_run hS hz hn q fun n H' Q' m z => ⟨_, rfl, _, rfl, (intT_len (hn n m)).2, z⟩
end
end Sm
/-! The law's own keys. -/
namespace Sm
open PySem PySem.Spec PyProof.Rows L2 Vd RZ
def lwD : PyData → PyData
  | .str x => .tuple [.int 2, .int 0, .str x]
  | d => .tuple [.int 1, d, .str ("" : Str)]
def lrD (d : PyData) : PyData := .tuple ((partsD d).map lwD)
/-- the key by which the law sorts a fact -/
def lkD : PyData → PyData
  | .tuple [n, r] => .tuple [n, lrD r]
  | d => d
theorem lw_key {d : PyData} (h : WorthK d) : keyT (lwD d) = true ∧ dpD (lwD d) ≤ 1 := by
  rcases h with ⟨i, rfl⟩ | ⟨x, rfl⟩ <;> simp [lwD, keyT, keyTs, dpD, dpDs]
theorem lw_can {x y : PyData} (hx : WorthK x) (hy : WorthK y) : canD (lwD x) (lwD y) = true := by
  rcases hx with ⟨i, rfl⟩ | ⟨u, rfl⟩ <;> rcases hy with ⟨j, rfl⟩ | ⟨v, rfl⟩ <;> simp [lwD, canD, canDs, eqD]
theorem lws_can : ∀ {xs ys : List PyData}, (∀ x ∈ xs, WorthK x) → (∀ y ∈ ys, WorthK y) → canDs (xs.map lwD) (ys.map lwD) = true
  | [], ys, _, _ => by
    unfold List.map canDs
    rfl
  | x :: r, [], _, _ => by
    rw [List.map_cons]
    unfold canDs
    rfl
  | x :: r, y :: q, hx, hy => by
    rw [List.map_cons, List.map_cons]
    unfold canDs
    show (if eqD (lwD x) (lwD y) = true then canDs (r.map lwD) (q.map lwD) else canD (lwD x) (lwD y)) = true
    rw [lws_can (fun z m => hx z (List.mem_cons_of_mem _ m)) (fun z m => hy z (List.mem_cons_of_mem _ m)), lw_can (hx x List.mem_cons_self) (hy y List.mem_cons_self)]
    split <;> rfl
/-- both orders are one -/
theorem lw_same {x y : PyData} (hx : WorthK x) (hy : WorthK y) : eqD (lwD x) (lwD y) = eqD (wkD x) (wkD y) ∧ ltD (lwD x) (lwD y) = ltD (wkD x) (wkD y) := by
  rcases hx with ⟨i, rfl⟩ | ⟨u, rfl⟩ <;> rcases hy with ⟨j, rfl⟩ | ⟨v, rfl⟩
  · have e : ltDs [PyData.str ("" : Str)] [PyData.str ("" : Str)] = false := by decide
    refine ⟨by simp [lwD, wkD, isS, eqD, eqDs], ?_⟩
    simp only [lwD, wkD, isS, ltD, ltDs, eqD]
    by_cases h : i = j
    · subst h
      simp
    · have : (i == j) = false := beq_eq_false_iff_ne.mpr h
      simp [this]
  · simp [lwD, wkD, isS, eqD, eqDs, ltD, ltDs]
  · simp [lwD, wkD, isS, eqD, eqDs, ltD, ltDs]
  · refine ⟨by simp [lwD, wkD, isS, eqD, eqDs], ?_⟩
    simp only [lwD, wkD, isS, ltD, ltDs, eqD]
    by_cases h : u = v
    · subst h
      simp
    · have : (u == v) = false := beq_eq_false_iff_ne.mpr h
      simp [this]
section
variable {P : Program} {w : World} {K : PySem.W.Frag} {mg : Str → Option Value} {base : Heap}
theorem scLKey : FnScope ["row", "found", "worth"] ["row"] (defScope sLKey) := ⟨rfl, rfl, rfl, by decide +kernel, rfl, by decide +kernel, by decide +kernel⟩
def RowW (d : PyData) : Prop := ∃ ws, d = .tuple ws ∧ ws.length ≤ 1000 ∧ ∀ x ∈ ws, WorthK x
theorem ok_lkey {f : Addr} {fd : FuncData} (F : FnP K "_law_key" sLKey f fd) (M : Nm mg) : FnOk P w K mg base CX0 1 f fd ["row"] (spK K RowW lrD) := by
  refine F.ok scLKey spK_len (fun cdv A outer s H vs Q E hr h => ?_)
  obtain ⟨v, d, rfl, hd, ⟨ws, rfl, hl, hk⟩, q⟩ := h
  refine ⟨_, PSs.nox (pss_cons (ps_set (i := 1) scLKey.nd rfl (Or.inl rfl) (pe_lst pa_nil))
      (pss_cons (ps_for PassesOwn.never rfl (pi_tup (pv 0)) (pg_name (i := 2) scLKey.nd rfl (Or.inl rfl)) (pss_one (ps_if (pt_cmpR op_isN (pv 2) pe_non (nomark _)) (pss_one (ps_expr (pe_bm PySem.F.plainAttrs_list PySem.F.slot_list_append PySem.F.type_list_append mt_append (pv 1) (pa_cons (pe_tup (pa_cons pe_int (pa_cons pe_int (pa_cons pe_str pa_nil)))) pa_nil)))) (pss_one (ps_if (pt_val (pe_callB (id := "isinstance") (r := rIsi K) call_isi (by rfl) M.isinstance (by decide +kernel) (pa_cons (pv 2) (pa_cons (ty_cls (n := "str") M.str (by rfl) (by decide +kernel)) pa_nil)))) (pss_one (ps_expr (pe_bm PySem.F.plainAttrs_list PySem.F.slot_list_append PySem.F.type_list_append mt_append (pv 1) (pa_cons (pe_tup (pa_cons pe_int (pa_cons pe_int (pa_cons (pv 2) pa_nil)))) pa_nil)))) (pss_one (ps_expr (pe_bm PySem.F.plainAttrs_list PySem.F.slot_list_append PySem.F.type_list_append mt_append (pv 1) (pa_cons (pe_tup (pa_cons pe_int (pa_cons (pv 2) (pa_cons pe_str pa_nil)))) pa_nil)))))))))
      (pss_one (ps_ret (pe_callTy (r := rTupOf K) call_tuple_of (by rfl) M.tuple (by decide +kernel) (pa_cons (pv 1) pa_nil)))))), ?_⟩
  obtain ⟨a, xs, rfl, h0, h2⟩ := ofTup hd
  refine ⟨by decide, fun p np => ⟨_, rfl, a, rfl, ⟨_, SqT.same (same_up np) (h0.sq (K := K))⟩, ?_⟩⟩
  refine for_tup (xs := xs) (fun i σ H' => Same H H' ∧ ∃ ys o, σ = [some (.ref a), some (.ref p), o] ∧ H' p = some (.lst ys) ∧ DvAll p K H' ys ((ws.take i).map lwD)) ⟨same_up np, [], none, rfl, upd_same, .nil⟩ (fun i σ H' _ e => SqT.same e.1 h0.sq) (fun i x σ H' hx e => ?_) (fun σ H' e => ?_)
  · obtain ⟨sH, ys, o, rfl, hp, hys⟩ := e
    obtain ⟨d, he, hdd⟩ := dall_at' h2 hx
    have il : i < ws.length := (List.getElem?_eq_some_iff.mp he).1
    have ny : ys.length ≤ 1000 := by
      have := dall_len hys
      rw [List.length_map, List.length_take] at this
      omega
    have fin : ∀ (t : Addr) (us : List V) (ds : List PyData), H' t = none → lwD d = .tuple ds → (∀ D, DvAll D K (upd H' t (.tup us)) us ds) → Same H (upd (upd H' t (.tup us)) p (.lst (ys ++ [.ref t]))) ∧ ∃ zs o, [some (V.ref a), some (.ref p), some x] = [some (.ref a), some (.ref p), o] ∧ (upd (upd H' t (.tup us)) p (.lst (ys ++ [.ref t]))) p = some (.lst zs) ∧ DvAll p K (upd (upd H' t (.tup us)) p (.lst (ys ++ [.ref t]))) zs ((ws.take (i + 1)).map lwD) := fun t us ds nt el hus => by
      have st := same_up (o := .tup us) nt
      have tp : t ≠ p := fun e => by
        rw [e, hp] at nt
        cases nt
      have kp : Kp p (upd H' t (.tup us)) (upd (upd H' t (.tup us)) p (.lst (ys ++ [.ref t]))) := kp_keep fun b o n h => by
        rw [upd_ne n]
        exact h
      refine ⟨fun c o z => ?_, _, _, rfl, upd_same, ?_⟩
      · rw [upd_ne (ne_of_none z np)]
        exact st _ _ (sH c o z)
      · rw [List.take_add_one, he, List.map_append]
        refine dall_app ((hys.kp (kp_same st)).kp kp) (.cons ?_ .nil)
        show Dv p K _ (.ref t) (lwD d)
        rw [el]
        exact (Dv.tup (.inl upd_same) tp (hus p)).kp kp
    rcases hk d (List.mem_of_getElem? he) with ⟨n, rfl⟩ | ⟨z, rfl⟩
    · cases dd_int (hdd.same sH)
      refine ⟨_, rfl, rfl, _, rfl, tst (fun e => by cases e) fun _ => ?_⟩
      refine ⟨_, rfl, _, _, _, _, _, rfl, .ty _, tyx (.int n : Dd K H' (.int n) (.int n)), kit_ty (kS _), _, rfl, tst (fun e => by cases e) fun _ => ?_⟩
      exact ⟨_, rfl, .inl ⟨rfl, _, SqL.of hp⟩, _, rfl, (by rw [sizeLine_eq]; exact (by decide : 3 ≤ 16777216)), fun t nt => ⟨p, ys, _, rfl, rfl, (same_up nt) _ _ hp, by rw [sizeLine_eq]; omega, fin t _ [.int 1, .int n, .str ("" : Str)] nt rfl fun D => .cons (.int 1) (.cons (.int n) (.cons (.str _) .nil))⟩⟩
    · cases dd_str (hdd.same sH)
      refine ⟨_, rfl, rfl, _, rfl, tst (fun e => by cases e) fun _ => ?_⟩
      refine ⟨_, rfl, _, _, _, _, _, rfl, .ty _, tyx (.str z : Dd K H' (.str z) (.str z)), kit_ty (kS _), _, rfl, tst (fun _ => ?_) fun e => by cases e⟩
      exact ⟨_, rfl, .inl ⟨rfl, _, SqL.of hp⟩, _, rfl, (by rw [sizeLine_eq]; exact (by decide : 3 ≤ 16777216)), fun t nt => ⟨p, ys, _, rfl, rfl, (same_up nt) _ _ hp, by rw [sizeLine_eq]; omega, fin t _ [.int 2, .int 0, .str z] nt rfl fun D => .cons (.int 2) (.cons (.int 0) (.cons (.str z) .nil))⟩⟩
  · obtain ⟨sH, ys, o, rfl, hp, hys⟩ := e
    rw [dall_len h2, List.take_of_length_le (Nat.le_refl _)] at hys
    exact ⟨_, rfl, p, ys, rfl, .inl ⟨SqL.of hp, fun l nl => q _ _ (sH.trans (same_up nl)) (.tup (.inl upd_same) (DdAll.same (same_up nl) (DdAll.same vis_same hys)))⟩⟩
end
end Sm
/-! Dicts whose keys are nested tuples. -/
namespace Sm
open PySem PySem.Spec PyProof.Rows L2 Vd
mutual
def nk : PyData → NestedKey
  | .int i => .num i
  | .str x => .text x
  | .tuple ds => .tup (nks ds)
  | _ => .none
def nks : List PyData → List NestedKey
  | [] => []
  | d :: r => nk d :: nks r
end
mutual
theorem nk_inj : ∀ {d e : PyData}, keyT d = true → keyT e = true → nk d = nk e → d = e
  | .int i, .int j, _, _, h => by
    unfold nk at h
    injection h with h
    rw [h]
  | .str i, .str j, _, _, h => by
    unfold nk at h
    injection h with h
    rw [h]
  | .tuple ds, .tuple es, kd, ke, h => by
    unfold nk at h
    injection h with h
    unfold keyT at kd ke
    rw [nks_inj kd ke h]
  | .int _, .str _, _, _, h | .int _, .tuple _, _, _, h | .str _, .int _, _, _, h | .str _, .tuple _, _, _, h | .tuple _, .int _, _, _, h | .tuple _, .str _, _, _, h => by
    unfold nk at h
    cases h
  | .none, _, h, _, _ | .bool _, _, h, _, _ | .list _, _, h, _, _ | .dict _, _, h, _, _ | .int _, .none, _, h, _ | .int _, .bool _, _, h, _ | .int _, .list _, _, h, _ | .int _, .dict _, _, h, _
  | .str _, .none, _, h, _ | .str _, .bool _, _, h, _ | .str _, .list _, _, h, _ | .str _, .dict _, _, h, _ | .tuple _, .none, _, h, _ | .tuple _, .bool _, _, h, _ | .tuple _, .list _, _, h, _ | .tuple _, .dict _, _, h, _ => by
    unfold keyT at h
    cases h
theorem nks_inj : ∀ {ds es : List PyData}, keyTs ds = true → keyTs es = true → nks ds = nks es → ds = es
  | [], [], _, _, _ => rfl
  | [], _ :: _, _, _, h => by
    unfold nks at h
    cases h
  | _ :: _, [], _, _, h => by
    unfold nks at h
    cases h
  | d :: r, e :: q, kd, ke, h => by
    unfold nks at h
    unfold keyTs at kd ke
    obtain ⟨a1, a2⟩ := Bool.and_eq_true_iff.mp kd
    obtain ⟨b1, b2⟩ := Bool.and_eq_true_iff.mp ke
    injection h with h1 h2
    rw [nk_inj a1 b1 h1, nks_inj a2 b2 h2]
end
mutual
theorem nk_depth : ∀ (d : PyData), (nk d).depth ≤ dpD d
  | .int i => by
    unfold nk
    simp [NestedKey.depth]
  | .str x => by
    unfold nk
    simp [NestedKey.depth]
  | .tuple ds => by
    have := nks_depth ds
    unfold nk dpD
    simp only [NestedKey.depth]
    omega
  | .none | .bool _ | .list _ | .dict _ => by
    unfold nk
    simp [NestedKey.depth]
theorem nks_depth : ∀ (ds : List PyData), NestedKey.depthAll (nks ds) ≤ dpDs ds
  | [] => by
    unfold nks
    simp [NestedKey.depthAll]
  | d :: r => by
    have h1 := nk_depth d
    have h2 := nks_depth r
    unfold nks dpDs
    simp only [NestedKey.depthAll]
    omega
end
section
variable {X : Cx} {pins : List (Addr × Obj)} {σ : L2.St} {H : Hp} {s : Shared}
mutual
theorem ni_run (I : Inv X pins σ H s) : ∀ {d : PyData} {v : V} {a : Value}, keyT d = true → Dd X.K H v d → RelV v a → NestedIs s.heap (nk d) a
  | .int i, v, a, _, h, r => by
    cases h
    obtain ⟨t, rfl⟩ := r
    unfold nk
    exact .int i t
  | .str x, v, a, _, h, r => by
    cases h
    obtain ⟨t, rfl⟩ := r
    unfold nk
    exact .text x t
  | .tuple ds, v, a, k, h, r => by
    cases h with
    | tup h1 h2 =>
      cases r
      obtain ⟨its, rv, ⟨o, ho, hc, n, hd⟩, _⟩ := I.tuple (TupN.sq (K := X.K) h1)
      unfold keyT at k
      unfold nk
      exact .tup ho hc hd (by simpa using nis_run I k h2 rv)
  | .none, _, _, h, _, _ | .bool _, _, _, h, _, _ | .list _, _, _, h, _, _ | .dict _, _, _, h, _, _ => by
    unfold keyT at h
    cases h
theorem nis_run (I : Inv X pins σ H s) : ∀ {ds : List PyData} {vs : List V} {as : List Value}, keyTs ds = true → DdAll X.K H vs ds → Vals vs as → NestedAll s.heap (nks ds) as
  | [], vs, as, _, h, r => by
    cases h
    cases r
    unfold nks
    exact .nil
  | d :: q, vs, as, k, h, r => by
    cases h with
    | cons h1 h2 =>
      cases r with
      | cons r1 r2 =>
        unfold keyTs at k
        obtain ⟨a1, a2⟩ := Bool.and_eq_true_iff.mp k
        unfold nks
        exact .cons (ni_run I a1 h1 r1) (nis_run I a2 h2 r2)
end
/-- what stands in a dict: the key's data, where it stands, the address of the value -/
abbrev Ent := PyData × Addr × Addr
def entN (e : Ent) : NestedKey × Addr × Value := (nk e.1, e.2.1, .ref e.2.2)
/-- the dict at p with these entries -/
def rawO (p : Addr) (es : Array DictEntry) (ep : Nat) : HO := .ext fun h => DT.Raw h p es ep
def DictN (P : Program) (w : World) (K : PySem.W.Frag) (H : Hp) (p : Addr) (xs : List Ent) : Prop := ∃ (es : Array DictEntry) (ep : Nat), H p = some (rawO p es ep) ∧ (p == sysModules) = false ∧ es.toList = (xs.map entN).map (entryOfKey (nestedKind P w)) ∧ (xs.map (·.1)).Nodup ∧
  ∀ x ∈ xs, Dd K H (.ref x.2.1) x.1 ∧ keyT x.1 = true ∧ dpD x.1 ≤ 8
end
end Sm
/-! dict(list of pairs whose keys are nested tuples). -/
namespace Sm
open PySem PySem.Spec PyProof.Rows L2 Vd
def stE1 (xs : List Ent) (p : Ent) : List Ent := if xs.any (fun x => eqD x.1 p.1) = true then xs.map (fun x => if eqD x.1 p.1 = true then (x.1, x.2.1, p.2.2) else x) else xs ++ [p]
def stE (ps : List Ent) : List Ent := ps.foldl stE1 []
def KeyE (xs : List Ent) : Prop := ∀ x ∈ xs, keyT x.1 = true
theorem nk_eqD {d e : PyData} (kd : keyT d = true) (ke : keyT e = true) : decide (nk d = nk e) = eqD d e := by
  rw [Bool.eq_iff_iff, decide_eq_true_eq, eqD_iff kd]
  exact ⟨nk_inj kd ke, fun h => by rw [h]⟩
theorem at_any {xs : List Ent} {p : PyData} (hk : KeyE xs) (kp : keyT p = true) : (atKey (xs.map entN) (nk p)).isSome = xs.any fun x => eqD x.1 p := by
  induction xs with
  | nil => rfl
  | cons x r ih =>
    have ih := ih fun y hy => hk y (List.mem_cons_of_mem _ hy)
    have h1 := nk_eqD (hk x List.mem_cons_self) kp
    unfold atKey at ih ⊢
    rw [List.map_cons, List.find?_cons, List.any_cons, ← h1]
    have e : decide ((entN x).1 = nk p) = decide (nk x.1 = nk p) := rfl
    rw [e]
    cases hq : decide (nk x.1 = nk p) with
    | true => rfl
    | false =>
      rw [Bool.false_or]
      exact ih
theorem stored_st {xs : List Ent} {p : Ent} (hk : KeyE xs) (kp : keyT p.1 = true) : storedH (xs.map entN) (nk p.1) p.2.1 (.ref p.2.2) = (stE1 xs p).map entN := by
  unfold storedH stE1
  rw [at_any hk kp]
  split
  · rw [List.map_map, List.map_map]
    refine List.map_congr_left fun x hx => ?_
    have h1 := nk_eqD (hk x hx) kp
    show putAt (nk p.1) (.ref p.2.2) (entN x) = entN (if eqD x.1 p.1 = true then (x.1, x.2.1, p.2.2) else x)
    unfold putAt
    rw [← h1]
    by_cases h : nk x.1 = nk p.1
    · rw [if_pos (by exact h), if_pos (decide_eq_true h)]
      rfl
    · rw [if_neg (by exact h), if_neg (by rw [decide_eq_false h]; exact Bool.false_ne_true)]
  · rw [List.map_append]
    rfl
theorem stE1_mem {xs : List Ent} {p x : Ent} (h : x ∈ stE1 xs p) : (∃ y ∈ p :: xs, x.1 = y.1 ∧ x.2.1 = y.2.1) ∧ ∃ y ∈ p :: xs, x.2.2 = y.2.2 ∧ eqD x.1 y.1 = true ∨ (x = y) := by
  unfold stE1 at h
  split at h
  · obtain ⟨y, hy, rfl⟩ := List.mem_map.mp h
    by_cases e : eqD y.1 p.1 = true
    · rw [if_pos e]
      exact ⟨⟨y, List.mem_cons_of_mem _ hy, rfl, rfl⟩, p, List.mem_cons_self, .inl ⟨rfl, e⟩⟩
    · rw [if_neg e]
      exact ⟨⟨y, List.mem_cons_of_mem _ hy, rfl, rfl⟩, y, List.mem_cons_of_mem _ hy, .inr rfl⟩
  · rcases List.mem_append.mp h with h | h
    · exact ⟨⟨x, List.mem_cons_of_mem _ h, rfl, rfl⟩, x, List.mem_cons_of_mem _ h, .inr rfl⟩
    · rw [List.mem_singleton.mp h]
      exact ⟨⟨p, List.mem_cons_self, rfl, rfl⟩, p, List.mem_cons_self, .inr rfl⟩
theorem stE1_key {xs : List Ent} {p : Ent} (hk : KeyE xs) (kp : keyT p.1 = true) : KeyE (stE1 xs p) := fun x hx => by
  obtain ⟨⟨y, hy, e, _⟩, _⟩ := stE1_mem hx
  rw [e]
  rcases List.mem_cons.mp hy with rfl | hy
  · exact kp
  · exact hk y hy
theorem stored_all : ∀ {ps xs : List Ent}, KeyE ps → KeyE xs → storedAllH (xs.map entN) (ps.map entN) = (ps.foldl stE1 xs).map entN
  | [], _, _, _ => rfl
  | p :: r, xs, hp, hx => by
    have kp := hp p List.mem_cons_self
    rw [List.map_cons]
    show storedAllH (storedH (xs.map entN) (nk p.1) p.2.1 (.ref p.2.2)) (r.map entN) = _
    rw [stored_st hx kp, stored_all (fun x m => hp x (List.mem_cons_of_mem _ m)) (stE1_key hx kp)]
    rfl
section
variable {X : Cx}
/-- dict(list of pairs) -/
def rDictN (K : PySem.W.Frag) (P : Program) (w : World) : List V → Hp → VK → Prop := fun vs H Q => ∃ (a : Addr) (ts : List Addr) (ps : List Ent), vs = [.ref a] ∧ SqL K H a (ts.map V.ref) ∧ ts.length = ps.length ∧
  (∀ (j : Nat) (t : Addr) (p : Ent), ts[j]? = some t → ps[j]? = some p → H t = some (.tup [.ref p.2.1, .ref p.2.2])) ∧ (∀ p ∈ ps, Dd K H (.ref p.2.1) p.1 ∧ keyT p.1 = true ∧ dpD p.1 ≤ 8) ∧
  ∀ (p : Addr) (es : Array DictEntry) (ep : Nat), H p = none → (p == sysModules) = false → es.toList = ((stE ps).map entN).map (entryOfKey (nestedKind P w)) → (((stE ps).map entN).map (·.1)).Nodup → Q (.ref p) (upd H p (rawO p es ep))
theorem call_dictN (hc : X.calm = true) (hu : X.A.units + 64 < cLine) : CallR X (.type "dict") (rDictN X.K X.prog X.w) := by
  intro pins s σ H xs us Q I r h
  obtain ⟨a, ts, ps, rfl, hS, hl, hT, hK, q⟩ := h
  obtain ⟨its, rv, pl, hz⟩ := I.list hS
  rw [Vals.ref1 r]
  have hil : its.length = ps.length := by
    rw [← rv.length, List.length_map, hl]
  have hits : ∀ j t, ts[j]? = some t → its[j]? = some (Value.ref t) := fun j t e => by
    obtain ⟨u, h1, h2⟩ := rv.get (show (ts.map V.ref)[j]? = some (V.ref t) by rw [List.getElem?_map, e]; rfl)
    rw [h1, show u = Value.ref t from h2]
  have kE : KeyE ps := fun x hx => (hK x hx).2.1
  have isk : ∀ x ∈ ps.map entN, (nestedKind X.prog X.w).is s.heap x.1 x.2.1 := fun x hx => by
    obtain ⟨y, hy, rfl⟩ := List.mem_map.mp hx
    obtain ⟨h1, h2, h3⟩ := hK y hy
    exact ⟨ni_run I h2 h1 rfl, Nat.le_trans (nk_depth _) h3⟩
  refine call_dict_pairsH (knd := nestedKind X.prog X.w) (ps := ps.map entN) (PairArg.list a its.toArray (fun j => (ts[j]?).getD 0) (ps.map fun p => (Value.ref p.2.1, Value.ref p.2.2))) (I.ok.hd hc) (by show X.A.units + 1 + 1 + 8 < cLine; omega) ⟨pl, by simp [hil], fun j k v hj => ?_⟩ ⟨by rw [List.length_map, List.length_map], fun i key v hr => ?_⟩ (fun h' hk x hx => ?_) (by rw [List.length_map]; rw [List.length_map] at hz; omega) fun h' tk hd hk => ?_
  · rw [List.getElem?_map] at hj
    obtain ⟨p, hp, e⟩ := Option.map_eq_some_iff.mp hj
    injection e with e1 e2
    subst e1 e2
    obtain ⟨t, ht⟩ : ∃ t, ts[j]? = some t := ⟨ts[j]'(by rw [hl]; exact (List.getElem?_eq_some_iff.mp hp).1), List.getElem?_eq_getElem _⟩
    have e0 : (ts[j]?).getD 0 = t := by rw [ht]; rfl
    show its.toArray[j]? = some (Value.ref ((ts[j]?).getD 0)) ∧ PairAt s.heap ((ts[j]?).getD 0) (Value.ref p.2.1) (Value.ref p.2.2)
    rw [e0]
    refine ⟨by simpa using hits j t ht, .inl ?_⟩
    obtain ⟨_, its2, r2, o, ho, hc', n, hd⟩ := I.hok _ _ (hT j t p ht hp)
    obtain ⟨u1, u2, rfl, ri, rj⟩ := vals2 r2
    obtain rfl : u1 = Value.ref p.2.1 := ri
    obtain rfl : u2 = Value.ref p.2.2 := rj
    exact ⟨o, ho, hc', n, hd⟩
  · have hr : (ps.map fun p => (Value.ref p.2.1, Value.ref p.2.2))[i]? = some (key, v) := hr
    rw [List.getElem?_map] at hr
    obtain ⟨p, hp, e⟩ := Option.map_eq_some_iff.mp hr
    injection e with e1 e2
    subst e1 e2
    exact ⟨nk p.1, p.2.1, by rw [List.getElem?_map, hp]; rfl, rfl⟩
  · exact nestedKind_stays.stays (fun b o vs n e d => hk b o (Nat.ne_of_lt (Heap.lt_size e)) (by simp) e) (isk x hx)
  · have hk' : ∀ b o, s.heap.get? b = some o → h'.get? b = some o := fun b o e => hk b o (by simp) e
    have es0 := stored_all (xs := []) kE (fun _ h => nomatch h)
    rw [show ([] : List Ent).map entN = [] from rfl] at es0
    rw [es0] at hd
    obtain ⟨o, es, ep, ho, hx, hdt, hes, his, hn⟩ := hd
    refine ⟨.ref s.heap.objs.size, upd H s.heap.objs.size (rawO s.heap.objs.size es ep), I.laid (t' := tk) hk' (Nat.le_refl _) ⟨⟨o, ho, hx, hdt⟩, ⟨o, ho⟩, fun h1 h2 x k => DT.Raw.at' x k⟩, rfl, q _ es ep (I.hok.fresh (Nat.le_refl _)) (beq_eq_false_iff_ne.mpr (Nat.ne_of_gt I.big)) hes hn⟩
end
end Sm
/-! Looking into a dict of nested keys; its keys in order. -/
namespace Sm
open PySem PySem.Spec PyProof.Rows L2 Vd
open PySem.W (EachIs AllAlike Sortable dataLe sortingHeap sortingHeap_old sortVals_data list_sort_vals)
section
variable {X : Cx} {pins : List (Addr × Obj)} {σ : L2.St} {H : Hp} {s : Shared}
mutual
theorem rd_run (I : Inv X pins σ H s) : ∀ {d : PyData} {v : V} {a : Value}, keyT d = true → Dd X.K H v d → RelV v a → ∃ as, Reads s.heap a d as
  | .int i, v, a, _, h, r => by
    cases h
    obtain ⟨t, rfl⟩ := r
    exact ⟨_, Reads.int i t⟩
  | .str x, v, a, _, h, r => by
    cases h
    obtain ⟨t, rfl⟩ := r
    exact ⟨_, Reads.str x t⟩
  | .tuple ds, v, a, k, h, r => by
    cases h with
    | tup h1 h2 =>
      cases r
      obtain ⟨its, rv, ⟨o, ho, hc, n, hd⟩, _⟩ := I.tuple (TupN.sq (K := X.K) h1)
      unfold keyT at k
      obtain ⟨as, z⟩ := rds_run I k h2 rv
      exact ⟨_, Reads.tuple ho hc hd (by simpa using z)⟩
  | .none, _, _, h, _, _ | .bool _, _, _, h, _, _ | .list _, _, _, h, _, _ | .dict _, _, _, h, _, _ => by
    unfold keyT at h
    cases h
theorem rds_run (I : Inv X pins σ H s) : ∀ {ds : List PyData} {vs : List V} {as : List Value}, keyTs ds = true → DdAll X.K H vs ds → Vals vs as → ∃ bs, ReadsAll s.heap as ds bs
  | [], vs, as, _, h, r => by
    cases h
    cases r
    exact ⟨_, ReadsAll.nil⟩
  | d :: q, vs, as, k, h, r => by
    cases h with
    | cons h1 h2 =>
      cases r with
      | cons r1 r2 =>
        unfold keyTs at k
        obtain ⟨a1, a2⟩ := Bool.and_eq_true_iff.mp k
        obtain ⟨_, z1⟩ := rd_run I a1 h1 r1
        obtain ⟨_, z2⟩ := rds_run I a2 h2 r2
        exact ⟨_, ReadsAll.cons z1 z2⟩
end
theorem dn_of (I : Inv X pins σ H s) {p : Addr} {xs : List Ent} (h : DictN X.prog X.w X.K H p xs) : s.heap.DictOfH (nestedKind X.prog X.w) p (xs.map entN) := by
  obtain ⟨es, ep, hp, _, hes, hn, hk⟩ := h
  obtain ⟨⟨o, ho, hx, hd⟩, _⟩ := I.hok _ _ hp
  refine ⟨o, es, ep, ho, hx, hd, hes, fun x hx => ?_, ?_⟩
  · obtain ⟨y, hy, rfl⟩ := List.mem_map.mp hx
    obtain ⟨h1, h2, h3⟩ := hk y hy
    exact ⟨ni_run I h2 h1 rfl, Nat.le_trans (nk_depth _) h3⟩
  · have e : (xs.map entN).map (·.1) = (xs.map (·.1)).map nk := by
      rw [List.map_map, List.map_map]
      rfl
    rw [e]
    refine List.pairwise_map.mpr (List.Pairwise.imp_of_mem (fun {a b} ha hb hab e => ?_) hn)
    obtain ⟨x, hx, rfl⟩ := List.mem_map.mp ha
    obtain ⟨y, hy, rfl⟩ := List.mem_map.mp hb
    exact hab (nk_inj (hk x hx).2.1 (hk y hy).2.1 e)
/-- found[key] -/
def rIxN (P : Program) (w : World) (K : PySem.W.Frag) : R2 := fun x y H Q => ∃ (p b : Addr) (xs : List Ent) (d : PyData) (e : Ent), x = .ref p ∧ y = .ref b ∧ DictN P w K H p xs ∧ Dd K H (.ref b) d ∧ keyT d = true ∧ dpD d ≤ 8 ∧ e ∈ xs ∧ e.1 = d ∧ Q (.ref e.2.2) H
theorem ix_dictN (hu : X.A.units + 64 < cLine) : IxR X (rIxN X.prog X.w X.K) := by
  intro value slice pins s σ H x y v u Q I rx ry h hs
  obtain ⟨p, b, xs, d, e, rfl, rfl, hD, hb, kd, dp, he, ed, q⟩ := h
  cases rx
  cases ry
  have hm := dn_of I hD
  have hkd : KeyE xs := fun x hx => by
    obtain ⟨_, _, _, _, _, _, hk⟩ := hD
    exact (hk x hx).2.1
  have hv : valueAt (pairsH (xs.map entN)) (nk d) = some (Value.ref e.2.2) := by
    rw [valueAt_pairsH]
    obtain ⟨j, hj⟩ := List.mem_iff_getElem?.mp he
    have hx : (xs.map entN)[j]? = some (nk d, e.2.1, Value.ref e.2.2) := by
      rw [List.getElem?_map, hj, ← ed]
      rfl
    rw [atKey_of_get hm.nodup hx]
    rfl
  have key := getItem_keyed (A := X.A) (E := X.xe) (Q := fun r s' => r = Value.ref e.2.2 ∧ EP X pins σ Q r s') (knd := nestedKind X.prog X.w) (k := nk d) (a := b) (d := p) (kvs := pairsH (xs.map entN)) (s := s) (by show X.A.units + 1 + 8 < cLine; omega) ⟨ni_run I kd hb rfl, Nat.le_trans (nk_depth _) dp⟩ ⟨_, hm, rfl⟩ hv ⟨rfl, .ref e.2.2, H, I.tok _, rfl, q⟩
  exact subscriptTail_builtinR (x := Value.ref e.2.2) hm.typeIs PySem.F.slot_dict_getitem.lookup key hs
/-- each v stands for its key -/
def StF (K : PySem.W.Frag) (H : Hp) (v : Value) (d : PyData) : Prop := ∃ a : Addr, v = .ref a ∧ Dd K H (.ref a) d
theorem stf_vals {K : PySem.W.Frag} {H : Hp} : ∀ {vs : List Value} {ds : List PyData}, EachIs (StF K H) vs ds → ∃ bs : List Addr, vs = bs.map Value.ref ∧ DdAll K H (bs.map V.ref) ds
  | _, _, .nil => ⟨[], rfl, .nil⟩
  | _, _, .cons ⟨a, e, h⟩ t => by
    obtain ⟨bs, e2, h2⟩ := stf_vals t
    exact ⟨a :: bs, by rw [e, e2]; rfl, .cons h h2⟩
theorem vals_refs : ∀ (bs : List Addr), Vals (bs.map V.ref) (bs.map Value.ref)
  | [] => .nil
  | b :: r => .cons rfl (vals_refs r)
/-- sorted(dict): its keys, in order -/
def rSortN (P : Program) (w : World) (K : PySem.W.Frag) : List V → Hp → VK → Prop := fun vs H Q => ∃ (p : Addr) (xs : List Ent), vs = [.ref p] ∧ DictN P w K H p xs ∧ xs.length ≤ 100000 ∧ AllAlike (xs.map (·.1)) ∧ Sortable (xs.map (·.1)) ∧ (∀ x ∈ xs, x.1.depth ≤ 20) ∧
  ∀ (l : Addr) (bs : List Addr), H l = none → DdAll K H (bs.map V.ref) ((xs.map (·.1)).mergeSort (dataLe false id)) → bs.length = xs.length → Q (.ref l) (upd H l (.lst (bs.map V.ref)))
theorem cr_sortedN (hc : X.calm = true) (hu : X.A.units + 64 < cLine) : CallR X (.builtin "sorted") (rSortN X.prog X.w X.K) := by
  intro pins s σ H vs us Q I r h
  obtain ⟨p, xs, rfl, hD, hz, hal, hso, hdp, q⟩ := h
  rw [Vals.ref1 r]
  obtain ⟨es, ep, hp, lo, hes, hn, hk⟩ := hD
  obtain ⟨⟨o, ho, hx, hd⟩, _⟩ := I.hok _ _ hp
  have hsz : es.size = xs.length := by rw [← Array.length_toList, hes, List.length_map, List.length_map]
  refine Calls.call_function_entry PyProof.Rows.kind_sorted PyProof.Rows.plain_sorted PyProof.Rows.entry_sorted (PyProof.Rows.args_sorted1 _) ?_
  unfold Builtin.«sorted»
  refine wpAny_bind (m := checkCount "sorted" 1 1 _) (wpAny_pure ?_)
  refine wpAny_bind (PySem.W.kdu_collect (A := X.A.in1) (PySem.KdlSrc.rawDict (es := es) (ep := ep) lo) (I.ok.hd hc) ⟨o, ho, hx, hd⟩ (by rw [hsz, sizeLine_eq]; omega) fun h' tk acc hk' hacc => ?_)
  have eacc : acc.toList = (xs.map (·.2.1)).map Value.ref := by
    refine List.ext_getElem? fun i => ?_
    rw [List.map_map, List.getElem?_map]
    cases hi : xs[i]? with
    | none =>
      have : xs.length ≤ i := List.getElem?_eq_none_iff.mp hi
      rw [Array.getElem?_toList, Array.getElem?_eq_none (by rw [hacc.1, hsz]; exact this)]
      rfl
    | some x =>
      have il : i < xs.length := (List.getElem?_eq_some_iff.mp hi).1
      have ia : i < acc.size := by rw [hacc.1, hsz]; exact il
      rw [Array.getElem?_toList, Array.getElem?_eq_getElem ia]
      obtain ⟨hi2, e2⟩ := hacc.2 i acc[i] (Array.getElem?_eq_getElem ia)
      have e3 : es.toList[i]? = some (entryOfKey (nestedKind X.prog X.w) (entN x)) := by rw [hes, List.getElem?_map, List.getElem?_map, hi]; rfl
      rw [Array.getElem?_toList, Array.getElem?_eq_getElem hi2] at e3
      rw [e2, Option.some.inj e3]
      rfl
  have I1 : Inv X pins σ H { s with heap := h', toks := tk } := I.kept hk'
  have hal2 : acc.toList.length = xs.length := by rw [eacc, List.length_map, List.length_map]
  refine wpAny_bind (wpAny_newList ?_ (by rw [hal2, sizeLine_eq]; omega))
  have hoL : (h'.push (seqObj "list" acc.toList.toArray 0)).get? h'.objs.size = some (seqObj "list" acc.toList.toArray 0) := Heap.get?_push_size _ rfl
  show wpAny _ _ _ _ _ { s with heap := h'.push (seqObj "list" acc.toList.toArray 0), toks := tk }
  have kS : ∀ b u, h'.get? b = some u → (sortingHeap (h'.push (seqObj "list" acc.toList.toArray 0)) h'.objs.size acc.toList).get? b = some u := fun b u e => sortingHeap_old (Nat.ne_of_lt (Heap.lt_size e)) (Heap.get?_push_of_some _ e)
  have I2 : Inv X pins σ H { s with heap := sortingHeap (h'.push (seqObj "list" acc.toList.toArray 0)) h'.objs.size acc.toList, toks := tk } := I1.kept (t' := tk) kS
  have each : ∀ ys : List Ent, (∀ x ∈ ys, x ∈ xs) → EachIs (StF X.K H) ((ys.map (·.2.1)).map Value.ref) (ys.map (·.1)) ∧ EachIs (fun v d => ∃ as, Reads (sortingHeap (h'.push (seqObj "list" acc.toList.toArray 0)) h'.objs.size acc.toList) v d as) ((ys.map (·.2.1)).map Value.ref) (ys.map (·.1)) := fun ys => by
    induction ys with
    | nil => exact fun _ => ⟨.nil, .nil⟩
    | cons y r ih =>
      intro hm
      obtain ⟨i1, i2⟩ := ih fun x hx => hm x (List.mem_cons_of_mem _ hx)
      obtain ⟨h1, h2, _⟩ := hk y (hm y List.mem_cons_self)
      exact ⟨.cons ⟨_, rfl, h1⟩ i1, .cons (rd_run I2 h2 h1 rfl) i2⟩
  obtain ⟨eR, eD⟩ := each xs fun _ h => h
  rw [← eacc] at eR eD
  have S := PySem.W.SortsAt.data (prog := X.prog) (w := X.w) (A := X.A.in1.in1) (s := { s with heap := sortingHeap (h'.push (seqObj "list" acc.toList.toArray 0)) h'.objs.size acc.toList, toks := tk }) eD hal hso (fun d hd => by
    obtain ⟨x, hx, rfl⟩ := List.mem_map.mp hd
    have := hdp x hx
    show X.A.units + 1 + 1 + x.1.depth < cLine
    omega)
  have out := sortVals_data (h' := sortingHeap (h'.push (seqObj "list" acc.toList.toArray 0)) h'.objs.size acc.toList) (R := StF X.K H) (β := PyData) (enc := (id : PyData → PyData)) (vs := acc.toList) (bs := xs.map fun x : Ent => x.1) false eR eD (by rw [List.map_id]; exact hal)
  rw [List.map_id] at out
  obtain ⟨bs, eb, hb⟩ := stf_vals out
  have lb : bs.length = xs.length := by
    have := dall_len hb
    rw [List.length_map, List.length_mergeSort, List.length_map] at this
    exact this
  refine wpAny_bind (wpAny_holding (wpAny_call_entry PyProof.Rows.slot_list_sort ⟨_, hoL, rfl⟩ PyProof.Rows.entry_list_sort
    (list_sort_vals (s := { s with heap := h'.push (seqObj "list" acc.toList.toArray 0), toks := tk }) hoL S (by rw [hal2, sizeLine_eq]; omega) ⟨_, rfl, ?_⟩)
    (PyProof.Rows.args_list_sort _)))
  rw [eb]
  obtain ⟨e', he'⟩ := PyProof.Rows.sortedHeap_at (vs := acc.toList) (out := (bs.map Value.ref).toArray) hoL
  refine wpAny_pure ⟨_, rfl, .ref h'.objs.size, upd H h'.objs.size (.lst (bs.map V.ref)), I1.laid (t' := tk) (fun b u e => ?_) (Nat.le_refl _)
    (show ObjOk X.prog X.w _ _ _ (.lst (bs.map V.ref)) from ⟨by rw [List.length_map, lb, sizeLine_eq]; omega, bs.map Value.ref, e', vals_refs bs, he'⟩), rfl, q _ bs (I1.hok.fresh (Nat.le_refl _)) hb lb⟩
  have hb : b < h'.objs.size := Heap.lt_size e
  rw [PyProof.Rows.sortedHeap_old (Nat.ne_of_lt hb) (by rw [size_push']; exact Nat.lt_succ_of_lt hb)]
  exact Heap.get?_push_of_some _ e
end
end Sm
/-! _law_sorted: the facts, each once, in the order of their keys. -/
namespace Sm
open PySem PySem.Spec PyProof.Rows L2 Vd
open PySem.W (EachIs AllAlike Sortable dataLe)
section
variable {K : PySem.W.Frag} {σ : L2.St} {H0 : Hp} {D : Addr} {ds : List PyData} {xs : List V}
/-- the pairs made so far -/
def PrW (K : PySem.W.Frag) (D : Addr) (H0 : Hp) (ds : List PyData) (xs : List V) (i : Nat) (H' : Hp) : Prop := Same H0 H' ∧ ∃ (ts : List Addr) (ps : List Ent), H' D = some (.lst (ts.map V.ref)) ∧ ts.length = ps.length ∧ ps.map (fun p => p.1) = (ds.take i).map lkD ∧ ps.map (fun p => V.ref p.2.2) = xs.take i ∧
  (∀ (j : Nat) (t : Addr) (p : Ent), ts[j]? = some t → ps[j]? = some p → H' t = some (.tup [.ref p.2.1, .ref p.2.2])) ∧ ∀ p ∈ ps, Dv D K H' (.ref p.2.1) p.1
theorem prw_step {te : TE} {σ' : L2.St} {i m : Nat} {x : V} {d : PyData} {H' : Hp} (hz : ds.length ≤ 100000) (hD : H0 D = none) (hx : xs[i]? = some x) (hd : ds[i]? = some d) (hxr : ∃ b, x = .ref b) (e : PrW K D H0 ds xs i H') (hσ : σ'[m]? = some (some x)) (kl : keyT (lkD d) = true) (ht : ∃ n r, lkD d = .tuple [n, r]) (hin : YV K te σ' H' (lkD d)) :
    tTup (tCons te (tCons (tVar m) tNil)) σ' H' fun y H4 => ∃ acc, H4 D = some (.lst acc) ∧ acc.length < sizeLine ∧ PrW K D H0 ds xs (i + 1) (upd H4 D (.lst (acc ++ [y]))) := by
  obtain ⟨sH, ts, ps, hL, hl, e1, e2, e3, e4⟩ := e
  obtain ⟨b, rfl⟩ := hxr
  refine hin H' _ (Same.refl H') fun v H2 s2 hv => ⟨_, hσ, ?_⟩
  obtain ⟨n, r, el⟩ := ht
  obtain ⟨k, us, rfl, _, _⟩ := ofTup (show Dd K H2 v (.tuple [n, r]) from el ▸ hv)
  refine ⟨by rw [sizeLine_eq]; exact (by decide : 2 ≤ 16777216), fun t nt => ?_⟩
  have hL2 : H2 D = some (.lst (ts.map V.ref)) := s2 _ _ hL
  have st := same_up (o := .tup [.ref k, .ref b]) nt
  have tD : t ≠ D := fun e => by
    rw [e, hL2] at nt
    cases nt
  have il : i < ds.length := (List.getElem?_eq_some_iff.mp hd).1
  have lps : ps.length ≤ 100000 := by
    have := congrArg List.length e1
    rw [List.length_map, List.length_map, List.length_take] at this
    omega
  have kp : Kp D (upd H2 t (.tup [.ref k, .ref b])) (upd (upd H2 t (.tup [.ref k, .ref b])) D (.lst (ts.map V.ref ++ [.ref t]))) := kp_keep fun c o n h => by
    rw [upd_ne n]
    exact h
  refine ⟨_, st _ _ hL2, by rw [List.length_map, hl, sizeLine_eq]; omega, fun c o z => ?_, ts ++ [t], ps ++ [(lkD d, k, b)], ?_, ?_, ?_, ?_, fun j u p hj hp => ?_, fun p hp => ?_⟩
  · rw [upd_ne (ne_of_none z hD)]
    exact st _ _ (s2 _ _ (sH c o z))
  · rw [upd_same, List.map_append]
    rfl
  · rw [List.length_append, List.length_append, hl]
    rfl
  · rw [List.map_append, e1, List.take_add_one, hd, List.map_append]
    rfl
  · rw [List.map_append, e2, List.take_add_one, hx]
    rfl
  · by_cases hjl : j < ts.length
    · rw [List.getElem?_append_left hjl] at hj
      rw [List.getElem?_append_left (by omega)] at hp
      have h0 := e3 j u p hj hp
      have uD : u ≠ D := fun e => by
        rw [e, hL] at h0
        cases h0
      rw [upd_ne uD]
      exact st _ _ (s2 _ _ h0)
    · have hjl2 : j < ts.length + 1 := by
        have := (List.getElem?_eq_some_iff.mp hj).1
        rw [List.length_append] at this
        exact this
      have ej : j = ts.length := by omega
      subst ej
      rw [List.getElem?_append_right (Nat.le_refl _), Nat.sub_self] at hj
      rw [hl, List.getElem?_append_right (Nat.le_refl _), Nat.sub_self] at hp
      cases hj
      cases hp
      rw [upd_ne tD]
      exact upd_same
  · rcases List.mem_append.mp hp with hp | hp
    · exact ((e4 p hp).kp (kp_same (s2.trans st))).kp kp
    · rw [List.mem_singleton.mp hp]
      exact ((dv_key (not_tup hL2) kl hv).kp (kp_same st)).kp kp
theorem prw_start (hD : H0 D = none) : PrW K D H0 ds xs 0 (upd H0 D (.lst [])) := ⟨same_up hD, [], [], upd_same, rfl, rfl, by rw [List.take_zero]; rfl, fun j t p h => by simp at h, fun p h => nomatch h⟩
end
/-! ### what the dict holds -/
theorem stE_key : ∀ {ps xs : List Ent}, KeyE ps → KeyE xs → KeyE (ps.foldl stE1 xs)
  | [], _, _, h => h
  | p :: r, xs, hp, hx => stE_key (ps := r) (fun x m => hp x (List.mem_cons_of_mem _ m)) (stE1_key hx (hp p List.mem_cons_self))
/-- Z holds of all that went in: of key and place, of key and value -/
theorem stE_all {Z1 Z2 : PyData → Addr → Prop} : ∀ {ps xs : List Ent}, (∀ x ∈ ps, Z1 x.1 x.2.1 ∧ Z2 x.1 x.2.2) → (∀ x ∈ xs, Z1 x.1 x.2.1 ∧ Z2 x.1 x.2.2) → ∀ x ∈ ps.foldl stE1 xs, Z1 x.1 x.2.1 ∧ Z2 x.1 x.2.2
  | [], _, _, h => h
  | p :: r, xs, hp, hx => stE_all (ps := r) (fun x m => hp x (List.mem_cons_of_mem _ m)) fun x hx' => by
    obtain ⟨⟨y, hy, e1, e2⟩, z, hz, h⟩ := stE1_mem hx'
    have all : ∀ y ∈ p :: xs, Z1 y.1 y.2.1 ∧ Z2 y.1 y.2.2 := fun y hy => by
      rcases List.mem_cons.mp hy with rfl | hy
      · exact hp _ List.mem_cons_self
      · exact hx y hy
    refine ⟨by rw [e1, e2]; exact (all y hy).1, ?_⟩
    rcases h with ⟨h1, h2⟩ | rfl
    · rw [h1, eqD_of h2]
      exact (all z hz).2
    · exact (all _ hz).2
theorem stE1_has {xs : List Ent} {p : Ent} (hk : KeyE xs) (kp : keyT p.1 = true) : (∃ x ∈ stE1 xs p, x.1 = p.1) ∧ ∀ y ∈ xs, ∃ x ∈ stE1 xs p, x.1 = y.1 := by
  unfold stE1
  split
  · rename_i h
    obtain ⟨x, hx, e⟩ := List.any_eq_true.mp h
    refine ⟨⟨_, List.mem_map.mpr ⟨x, hx, rfl⟩, ?_⟩, fun y hy => ⟨_, List.mem_map.mpr ⟨y, hy, rfl⟩, ?_⟩⟩
    · rw [if_pos e]
      exact eqD_of e
    · split <;> rfl
  · exact ⟨⟨p, List.mem_append_right _ List.mem_cons_self, rfl⟩, fun y hy => ⟨y, List.mem_append_left _ hy, rfl⟩⟩
theorem stE_has : ∀ {ps xs : List Ent}, KeyE ps → KeyE xs → (∀ y ∈ ps, ∃ x ∈ ps.foldl stE1 xs, x.1 = y.1) ∧ ∀ y ∈ xs, ∃ x ∈ ps.foldl stE1 xs, x.1 = y.1
  | [], _, _, _ => ⟨(fun _ h => nomatch h), fun y hy => ⟨y, hy, rfl⟩⟩
  | p :: r, xs, hp, hx => by
    have kp := hp p List.mem_cons_self
    obtain ⟨h1, h2⟩ := stE_has (ps := r) (xs := stE1 xs p) (fun x m => hp x (List.mem_cons_of_mem _ m)) (stE1_key hx kp)
    obtain ⟨⟨x, hx1, e1⟩, g2⟩ := stE1_has hx kp
    refine ⟨fun y hy => ?_, fun y hy => ?_⟩
    · rcases List.mem_cons.mp hy with rfl | hy
      · obtain ⟨z, hz, e⟩ := h2 x hx1
        exact ⟨z, hz, e.trans e1⟩
      · exact h1 y hy
    · obtain ⟨x, hx, e⟩ := g2 y hy
      obtain ⟨z, hz, e2⟩ := h2 x hx
      exact ⟨z, hz, e2.trans e⟩
/-! ### the keys of right facts -/
def RightF (ds : List PyData) : Prop := ds.length ≤ 4000 ∧ ∀ d ∈ ds, okD d = true ∧ factD d = true
theorem lw_alike {x y : PyData} (hx : WorthK x) (hy : WorthK y) : PySem.W.alike (lwD x) (lwD y) = true := by
  rcases hx with ⟨i, rfl⟩ | ⟨u, rfl⟩ <;> rcases hy with ⟨j, rfl⟩ | ⟨v, rfl⟩ <;> simp [lwD, PySem.W.alike, PySem.W.alikeAll]
theorem lws_alike : ∀ {xs ys : List PyData}, (∀ x ∈ xs, WorthK x) → (∀ y ∈ ys, WorthK y) → PySem.W.alikeAll (xs.map lwD) (ys.map lwD) = true
  | [], ys, _, _ => by simp [PySem.W.alikeAll]
  | x :: r, [], _, _ => by simp [PySem.W.alikeAll]
  | x :: r, y :: q, hx, hy => by
    rw [List.map_cons, List.map_cons]
    unfold PySem.W.alikeAll
    rw [lw_alike (hx x List.mem_cons_self) (hy y List.mem_cons_self), lws_alike (fun z m => hx z (List.mem_cons_of_mem _ m)) (fun z m => hy z (List.mem_cons_of_mem _ m))]
    rfl
theorem lk_alike {d e : PyData} (od : okD d = true) (hd : factD d = true) (oe : okD e = true) (he : factD e = true) : PySem.W.alike (lkD d) (lkD e) = true := by
  obtain ⟨n, ws, rfl, _, _, hw⟩ := fact_row od hd
  obtain ⟨m, us, rfl, _, _, hu⟩ := fact_row oe he
  have k := lws_alike hw hu
  unfold lkD lrD partsD
  simp only [PySem.W.alike, PySem.W.alikeAll]
  rw [k]
  rfl
theorem lws_dp : ∀ {xs : List PyData}, (∀ x ∈ xs, WorthK x) → dpDs (xs.map lwD) ≤ 1 ∧ PyData.depthAll (xs.map lwD) ≤ 1 ∧ keyTs (xs.map lwD) = true
  | [], _ => ⟨by unfold List.map dpDs; omega, by simp [PyData.depthAll], by unfold List.map keyTs; rfl⟩
  | x :: r, h => by
    obtain ⟨i1, i2, i3⟩ := lws_dp (xs := r) fun z m => h z (List.mem_cons_of_mem _ m)
    have h0 := lw_key (h x List.mem_cons_self)
    have h1 : (lwD x).depth ≤ 1 := by
      rcases h x List.mem_cons_self with ⟨i, rfl⟩ | ⟨u, rfl⟩ <;> simp [lwD, PyData.depth, PyData.depthAll]
    rw [List.map_cons]
    refine ⟨?_, ?_, ?_⟩
    · unfold dpDs
      have := h0.2
      omega
    · rw [PyData.depthAll]
      omega
    · unfold keyTs
      rw [h0.1, i3]
      rfl
theorem lk_key {d : PyData} (o : okD d = true) (h : factD d = true) : keyT (lkD d) = true ∧ dpD (lkD d) ≤ 8 ∧ (lkD d).depth ≤ 20 ∧ ∃ n r, lkD d = .tuple [n, r] := by
  obtain ⟨n, ws, rfl, _, _, hw⟩ := fact_row o h
  obtain ⟨h1, h2, h3⟩ := lws_dp hw
  refine ⟨?_, ?_, ?_, _, _, rfl⟩
  · unfold lkD lrD partsD
    simp only [keyT, keyTs]
    rw [h3]
    rfl
  · unfold lkD lrD partsD
    simp only [dpD, dpDs]
    omega
  · unfold lkD lrD partsD
    simp only [PyData.depth, PyData.depthAll]
    omega
def SortOf (ds rs : List PyData) : Prop := (∀ d ∈ rs, d ∈ ds) ∧ ∃ ks : List PyData, ks.Nodup ∧ (∀ d ∈ ds, lkD d ∈ ks) ∧ (∀ k ∈ ks, ∃ d ∈ ds, lkD d = k) ∧ rs.map lkD = ks.mergeSort (dataLe false id)
end Sm
/-! _law_sorted as a def. -/
namespace Sm
open PySem PySem.Spec PyProof.Rows L2 Vd
open PySem.W (EachIs AllAlike Sortable dataLe)
theorem fact_rowW {d : PyData} (o : okD d = true) (h : factD d = true) : ∃ n r, d = .tuple [n, r] ∧ RowW r ∧ lkD d = .tuple [n, lrD r] := by
  obtain ⟨n, ws, rfl, _, l, hw⟩ := fact_row o h
  exact ⟨_, _, rfl, ⟨ws, rfl, by omega, hw⟩, rfl⟩
section
variable {P : Program} {w : World} {K : PySem.W.Frag} {mg : Str → Option Value} {base : Heap}
abbrev tInner (K : PySem.W.Frag) : TE := tTup (tCons (tOp (rIxT K) (tVar 2) (tC (.int 0))) (tCons (tCall (spK K RowW lrD) [] E0 (tCons (tOp (rIxT K) (tVar 2) (tC (.int 1))) tNil)) tNil))
theorem inner_yv {σ : L2.St} {H : Hp} {x : V} {d : PyData} (hσ : σ[2]? = some (some x)) (hd : Dd K H x d) (o : okD d = true) (h : factD d = true) : YV K (tInner K) σ H (lkD d) := by
  obtain ⟨n, r, rfl, hr, e⟩ := fact_rowW o h
  have hv : YV K (tVar 2) σ H (.tuple [n, r]) := yv_var hσ hd
  rw [e]
  exact yv_tup (yvs_cons (yv_ix (m := 0) hv rfl) (yvs_cons (yv_df (yv_ix (m := 1) hv rfl) hr) yvs_nil)) (by simp)
theorem fact_ref {H : Hp} {x : V} {d : PyData} (hd : Dd K H x d) (o : okD d = true) (h : factD d = true) : ∃ b, x = .ref b := by
  obtain ⟨n, r, rfl, _⟩ := fact_rowW o h
  obtain ⟨p, _, e, _⟩ := ofTup hd
  exact ⟨p, e⟩
/-- what stands behind the first loop -/
def PrZ (K : PySem.W.Frag) (H : Hp) (ds : List PyData) (D : Addr) (H1 : Hp) : Prop := Same H H1 ∧ ∃ (ts : List Addr) (ps : List Ent), H1 D = some (.lst (ts.map V.ref)) ∧ ts.length = ps.length ∧ (∀ (j : Nat) (t : Addr) (p : Ent), ts[j]? = some t → ps[j]? = some p → H1 t = some (.tup [.ref p.2.1, .ref p.2.2])) ∧
  (∀ p ∈ ps, Dd K H1 (.ref p.2.1) p.1) ∧ (∀ p ∈ ps, ∃ d ∈ ds, p.1 = lkD d ∧ Dd K H1 (.ref p.2.2) d) ∧ (∀ d ∈ ds, ∃ p ∈ ps, p.1 = lkD d) ∧ ps.length ≤ 100000
theorem prz_of {H H1 : Hp} {ds : List PyData} {xs : List V} {D : Addr} (hz : ds.length ≤ 4000) (hd : DdAll K H xs ds) (e : PrW K D H ds xs xs.length H1) : PrZ K H ds D H1 := by
  obtain ⟨sH, ts, ps, hL, hl, e1, e2, e3, e4⟩ := e
  have hxl : xs.length = ds.length := dall_len hd
  rw [hxl, List.take_of_length_le (Nat.le_refl _)] at e1
  rw [List.take_of_length_le (Nat.le_refl _)] at e2
  have lps : ps.length = ds.length := by
    have := congrArg List.length e1
    rw [List.length_map, List.length_map] at this
    exact this
  refine ⟨sH, ts, ps, hL, hl, e3, fun p hp => Dd.same vis_same (e4 p hp), fun p hp => ?_, fun d hdm => ?_, by omega⟩
  · obtain ⟨j, hj⟩ := List.mem_iff_getElem?.mp hp
    have h1 : (ps.map fun p => p.1)[j]? = some p.1 := by rw [List.getElem?_map, hj]; rfl
    have h2 : (ps.map fun p => V.ref p.2.2)[j]? = some (V.ref p.2.2) := by rw [List.getElem?_map, hj]; rfl
    rw [e1, List.getElem?_map] at h1
    rw [e2] at h2
    obtain ⟨d, hdj, ed⟩ := Option.map_eq_some_iff.mp h1
    obtain ⟨d', hdj', hdd⟩ := dall_at' hd h2
    rw [hdj] at hdj'
    cases hdj'
    exact ⟨d, List.mem_of_getElem? hdj, ed.symm, hdd.same sH⟩
  · have h1 : lkD d ∈ ps.map fun p => p.1 := by
      rw [e1]
      exact List.mem_map.mpr ⟨d, hdm, rfl⟩
    obtain ⟨p, hp, e⟩ := List.mem_map.mp h1
    exact ⟨p, hp, e⟩
/-- from the pairs to the answer -/
theorem sort_tail {H H1 : Hp} {ds : List PyData} {D : Addr} {v0 : V} {Q : VK} (hr : RightF ds) (z : PrZ K H ds D H1) (q : ∀ v' H' rs, Same H H' → Dd K H' v' (.tuple rs) → SortOf ds rs → Q v' H') :
    rDictN K P w [.ref D] H1 fun v H2 => tCB (rTupOf K) (tCons (tLc (iList K (tCB (rSortN P w K) (tCons (tVar 1) tNil))) (gName 3) tYes (tOp (rIxN P w K) (tVar 1) (tVar 3)) [3]) tNil) [some v0, some v, none, none] H2 Q := by
  obtain ⟨sH, ts, ps, hL, hl, e3, eK, eV, eA, lps⟩ := z
  obtain ⟨hz, hf⟩ := hr
  have kps : ∀ p ∈ ps, keyT p.1 = true ∧ dpD p.1 ≤ 8 := fun p hp => by
    obtain ⟨d, hd, e, _⟩ := eV p hp
    rw [e]
    have := lk_key (hf d hd).1 (hf d hd).2
    exact ⟨this.1, this.2.1⟩
  refine ⟨D, ts, ps, rfl, SqL.of hL, hl, e3, fun p hp => ⟨eK p hp, kps p hp⟩, fun p es ep np lo hes hn => ?_⟩
  have sp := same_up (o := rawO p es ep) np
  have kE : KeyE ps := fun x hx => (kps x hx).1
  obtain ⟨hhas, _⟩ := stE_has (ps := ps) (xs := []) kE (fun _ h => nomatch h)
  have hall : ∀ x ∈ stE ps, Dd K H1 (.ref x.2.1) x.1 ∧ ∃ d ∈ ds, x.1 = lkD d ∧ Dd K H1 (.ref x.2.2) d := stE_all (Z1 := fun k a => Dd K H1 (.ref a) k) (Z2 := fun k a => ∃ d ∈ ds, k = lkD d ∧ Dd K H1 (.ref a) d) (fun x hx => ⟨eK x hx, eV x hx⟩) (fun _ h => nomatch h)
  have kst : ∀ x ∈ stE ps, keyT x.1 = true ∧ dpD x.1 ≤ 8 ∧ x.1.depth ≤ 20 ∧ ∃ n r, x.1 = .tuple [n, r] := fun x hx => by
    obtain ⟨_, d, hd, e, _⟩ := hall x hx
    rw [e]
    exact lk_key (hf d hd).1 (hf d hd).2
  have nod : ((stE ps).map (·.1)).Nodup := by
    have e : ((stE ps).map entN).map (·.1) = ((stE ps).map (·.1)).map nk := by
      rw [List.map_map, List.map_map]
      rfl
    rw [e] at hn
    exact List.Pairwise.imp (fun h e => h (by rw [e])) (List.pairwise_map.mp hn)
  have hDN : DictN P w K (upd H1 p (rawO p es ep)) p (stE ps) := ⟨es, ep, upd_same, lo, hes, nod, fun x hx => ⟨(hall x hx).1.same sp, (kst x hx).1, (kst x hx).2.1⟩⟩
  have lst : (stE ps).length ≤ 100000 := by
    have h0 := stored_all (ps := ps) (xs := []) kE (fun _ h => by cases h)
    rw [show ([] : List Ent).map entN = [] from rfl] at h0
    have h1 := storedAllH_length (ps.map entN) []
    rw [h0, List.length_map, List.length_map, List.length_nil] at h1
    have e : (ps.foldl stE1 []).length = (stE ps).length := rfl
    omega
  have alk : AllAlike ((stE ps).map (·.1)) := fun d hd d' hd' => by
    obtain ⟨x, hx, rfl⟩ := List.mem_map.mp hd
    obtain ⟨y, hy, rfl⟩ := List.mem_map.mp hd'
    obtain ⟨_, c, hc, e, _⟩ := hall x hx
    obtain ⟨_, c', hc', e', _⟩ := hall y hy
    rw [e, e']
    exact lk_alike (hf c hc).1 (hf c hc).2 (hf c' hc').1 (hf c' hc').2
  have srt : Sortable ((stE ps).map (·.1)) := .inl fun d hd => by
    obtain ⟨x, hx, rfl⟩ := List.mem_map.mp hd
    obtain ⟨_, _, _, n, r, e⟩ := kst x hx
    exact ⟨n, [r], e⟩
  refine ⟨_, rfl, p, stE ps, rfl, hDN, lst, alk, srt, fun x hx => (kst x hx).2.2.1, fun l bs nl hb lb => ?_⟩
  have sl := sp.trans (same_up (o := .lst (bs.map V.ref)) nl)
  refine ⟨l, rfl, ⟨_, SqL.of upd_same⟩, fun D2 hD2 => ?_⟩
  have sAll := sl.trans (same_up (o := .lst []) hD2)
  refine lc_list (xs := bs.map V.ref) (fun i H' => Same (upd (upd H1 p (rawO p es ep)) l (.lst (bs.map V.ref))) H' ∧ ∃ ys rs, H' D2 = some (.lst ys) ∧ DdAll K H1 ys rs ∧ (∀ d ∈ rs, d ∈ ds) ∧ rs.map lkD = (((stE ps).map (·.1)).mergeSort (dataLe false id)).take i) ⟨same_up hD2, [], [], upd_same, .nil, (fun _ h => nomatch h), by rw [List.take_zero]; rfl⟩ (fun i H' _ e => SqL.of (e.1 _ _ upd_same)) (fun i x H' hx e => ?_) (fun H' e => ?_)
  · obtain ⟨sH', ys, rs, hy, hys, hrs, er⟩ := e
    obtain ⟨k, hk, hkd⟩ := dall_at' hb hx
    obtain ⟨b, hbi, rfl⟩ : ∃ b, bs[i]? = some b ∧ x = V.ref b := by
      rw [List.getElem?_map] at hx
      obtain ⟨b, h1, h2⟩ := Option.map_eq_some_iff.mp hx
      exact ⟨b, h1, h2.symm⟩
    have il : i < bs.length := (List.getElem?_eq_some_iff.mp hbi).1
    obtain ⟨en, hen, ek⟩ := List.mem_map.mp (List.mem_mergeSort.mp (List.mem_of_getElem? hk))
    obtain ⟨_, d, hd, ed, hdd⟩ := hall en hen
    have hy2 : ys.length ≤ 100000 := by
      have h1 := dall_len hys
      have h2 := congrArg List.length er
      rw [List.length_map, List.length_take, List.length_mergeSort, List.length_map] at h2
      omega
    refine ⟨rfl, _, rfl, _, rfl, p, b, stE ps, k, en, rfl, rfl, ?_, hkd.same ?_, ek ▸ (kst en hen).1, ek ▸ (kst en hen).2.1, hen, ek, ys, hy, by rw [sizeLine_eq]; omega, ?_, ys ++ [.ref en.2.2], rs ++ [d], upd_same, dall_app hys (.cons hdd .nil), ?_, ?_⟩
    · obtain ⟨es, ep, h1, h2, h3, h4, h5⟩ := hDN
      have sq : Same (upd H1 p (rawO p _ _)) H' := (same_up nl).trans sH'
      exact ⟨es, ep, sq _ _ h1, h2, h3, h4, fun x hx => ⟨(h5 x hx).1.same sq, (h5 x hx).2⟩⟩
    · exact (same_up nl).trans sH'
    · intro c o zz
      rw [upd_ne (ne_of_none zz hD2)]
      exact sH' _ _ zz
    · intro c hc
      rcases List.mem_append.mp hc with hc | hc
      · exact hrs c hc
      · rw [List.mem_singleton.mp hc]
        exact hd
    · rw [List.map_append, er, List.take_add_one, hk, List.map_singleton, ← ed, ek]
      rfl
  · obtain ⟨sH', ys, rs, hy, hys, hrs, er⟩ := e
    rw [List.take_of_length_le (by rw [List.length_mergeSort, List.length_map, List.length_map, lb]; exact Nat.le_refl _)] at er
    have sF : Same H1 H' := sl.trans sH'
    refine ⟨D2, ys, rfl, .inl ⟨SqL.of hy, fun t nt => q _ _ rs ((sH.trans sF).trans (same_up nt)) (.tup (.inl upd_same) (DdAll.same (sF.trans (same_up nt)) hys)) ⟨hrs, (stE ps).map (·.1), nod, fun d hd => ?_, fun k hk => ?_, er⟩⟩⟩
    · obtain ⟨p1, hp1, e1⟩ := eA d hd
      obtain ⟨x, hx, e2⟩ := hhas p1 hp1
      exact List.mem_map.mpr ⟨x, hx, e2.trans e1⟩
    · obtain ⟨x, hx, rfl⟩ := List.mem_map.mp hk
      obtain ⟨_, d, hd, e, _⟩ := hall x hx
      exact ⟨d, hd, e.symm⟩
theorem scSorted : FnScope ["facts", "found", "fact", "key"] ["facts"] (defScope sSorted) := ⟨rfl, rfl, rfl, by decide +kernel, rfl, by decide +kernel, by decide +kernel⟩
/-- of a tuple of facts -/
def spSortT (K : PySem.W.Frag) : Sp := fun vs H Q _ => ∃ (v : V) (ds : List PyData), vs = [v] ∧ Dd K H v (.tuple ds) ∧ RightF ds ∧ ∀ v' H' rs, Same H H' → Dd K H' v' (.tuple rs) → SortOf ds rs → Q v' H'
/-- of a list of facts -/
def spSortL (K : PySem.W.Frag) : Sp := fun vs H Q _ => ∃ (a : Addr) (xs : List V) (ds : List PyData), vs = [.ref a] ∧ SqL K H a xs ∧ DdAll K H xs ds ∧ RightF ds ∧ ∀ v' H' rs, Same H H' → Dd K H' v' (.tuple rs) → SortOf ds rs → Q v' H'
theorem ok_sortT {f : Addr} {fd : FuncData} (F : FnP K "_law_sorted" sSorted f fd) (M : Nm mg) (M2 : Nm2 mg) (DLK : DK P w K mg base "_law_key" 1 "row" RowW lrD) : FnOk P w K mg base CX0 2 f fd ["facts"] (spSortT K) := by
  refine F.ok scSorted (fun vs H Q E h => ?_) (fun cdv A outer s H vs Q E hr h => ?_)
  · obtain ⟨v, ds, rfl, _⟩ := h
    rfl
  obtain ⟨v, ds, rfl, hd, hR, q⟩ := h
  refine ⟨_, PSs.nox (pss_cons (ps_set (i := 1) scSorted.nd rfl (Or.inr rfl) (pe_callTy (r := rDictN K P w) (call_dictN (by rfl) (hu64 hr)) (by rfl) M2.dict (by decide +kernel) (pa_cons (pe_lc (own := [("fact", 2)]) (g := gName 2) (tt := tYes) (by rfl) scSorted.nd (pi_tup (pv 0)) (blkOk_by (N := ["facts", "found", "fact", "key"]) (sc := defScope sSorted) (by decide +kernel)) (fun _ _ _ _ _ => pg_name (i := 2) scSorted.nd rfl (Or.inl rfl)) (fun _ _ _ _ _ => pts_nil) (fun _ _ _ _ _ => (pe_tup (pa_cons (pe_tup (pa_cons (pe_ix (r := rIxT K) ix_tup (pv 2) pe_int (fun _ _ => rfl)) (pa_cons (pe_df DLK hr (by decide) (pa_cons (pe_ix (r := rIxT K) ix_tup (pv 2) pe_int (fun _ _ => rfl)) pa_nil)) pa_nil))) (pa_cons (pv 2) pa_nil))))) pa_nil)))
      (pss_one (ps_ret (pe_callTy (r := rTupOf K) call_tuple_of (by rfl) M.tuple (by decide +kernel) (pa_cons (pe_lc (own := [("key", 3)]) (g := gName 3) (tt := tYes) (by rfl) scSorted.nd (pi_list (pe_callB (r := rSortN P w K) (cr_sortedN (by rfl) (hu64 hr)) (by rfl) M2.sorted (by decide +kernel) (pa_cons (pv 1) pa_nil))) (blkOk_by (N := ["facts", "found", "fact", "key"]) (sc := defScope sSorted) (by decide +kernel)) (fun _ _ _ _ _ => pg_name (i := 3) scSorted.nd rfl (Or.inl rfl)) (fun _ _ _ _ _ => pts_nil) (fun _ _ _ _ _ => (pe_ix (r := rIxN P w K) (ix_dictN (hu64 hr)) (pv 1) (pv 3) (fun _ _ => rfl)))) pa_nil))))), ?_⟩
  obtain ⟨a, xs, rfl, h0, h2⟩ := ofTup hd
  refine ⟨_, rfl, a, rfl, ⟨_, h0.sq⟩, fun D hD => ?_⟩
  refine lc_tup (xs := xs) (PrW K D H ds xs) (prw_start hD) (fun i H' _ e => SqT.same e.1 h0.sq) (fun i x H' hx e => ⟨rfl, ?_⟩) (fun H1 e => sort_tail hR (prz_of hR.1 h2 e) q)
  obtain ⟨d, he, hdd⟩ := dall_at' h2 hx
  have hf := hR.2 d (List.mem_of_getElem? he)
  exact prw_step (m := 2) (σ' := [some (.ref a), none, some x, none]) (by have := hR.1; omega) hD hx he (fact_ref hdd hf.1 hf.2) e rfl (lk_key hf.1 hf.2).1 (lk_key hf.1 hf.2).2.2.2 (inner_yv rfl (hdd.same e.1) hf.1 hf.2)
theorem ok_sortL {f : Addr} {fd : FuncData} (F : FnP K "_law_sorted" sSorted f fd) (M : Nm mg) (M2 : Nm2 mg) (DLK : DK P w K mg base "_law_key" 1 "row" RowW lrD) : FnOk P w K mg base CX0 2 f fd ["facts"] (spSortL K) := by
  refine F.ok scSorted (fun vs H Q E h => ?_) (fun cdv A outer s H vs Q E hr h => ?_)
  · obtain ⟨a, xs, ds, rfl, _⟩ := h
    rfl
  obtain ⟨a, xs, ds, rfl, hS, h2, hR, q⟩ := h
  refine ⟨_, PSs.nox (pss_cons (ps_set (i := 1) scSorted.nd rfl (Or.inr rfl) (pe_callTy (r := rDictN K P w) (call_dictN (by rfl) (hu64 hr)) (by rfl) M2.dict (by decide +kernel) (pa_cons (pe_lc (own := [("fact", 2)]) (g := gName 2) (tt := tYes) (by rfl) scSorted.nd (pi_list (pv 0)) (blkOk_by (N := ["facts", "found", "fact", "key"]) (sc := defScope sSorted) (by decide +kernel)) (fun _ _ _ _ _ => pg_name (i := 2) scSorted.nd rfl (Or.inl rfl)) (fun _ _ _ _ _ => pts_nil) (fun _ _ _ _ _ => (pe_tup (pa_cons (pe_tup (pa_cons (pe_ix (r := rIxT K) ix_tup (pv 2) pe_int (fun _ _ => rfl)) (pa_cons (pe_df DLK hr (by decide) (pa_cons (pe_ix (r := rIxT K) ix_tup (pv 2) pe_int (fun _ _ => rfl)) pa_nil)) pa_nil))) (pa_cons (pv 2) pa_nil))))) pa_nil)))
      (pss_one (ps_ret (pe_callTy (r := rTupOf K) call_tuple_of (by rfl) M.tuple (by decide +kernel) (pa_cons (pe_lc (own := [("key", 3)]) (g := gName 3) (tt := tYes) (by rfl) scSorted.nd (pi_list (pe_callB (r := rSortN P w K) (cr_sortedN (by rfl) (hu64 hr)) (by rfl) M2.sorted (by decide +kernel) (pa_cons (pv 1) pa_nil))) (blkOk_by (N := ["facts", "found", "fact", "key"]) (sc := defScope sSorted) (by decide +kernel)) (fun _ _ _ _ _ => pg_name (i := 3) scSorted.nd rfl (Or.inl rfl)) (fun _ _ _ _ _ => pts_nil) (fun _ _ _ _ _ => (pe_ix (r := rIxN P w K) (ix_dictN (hu64 hr)) (pv 1) (pv 3) (fun _ _ => rfl)))) pa_nil))))), ?_⟩
  refine ⟨_, rfl, a, rfl, ⟨_, hS⟩, fun D hD => ?_⟩
  refine lc_list (xs := xs) (PrW K D H ds xs) (prw_start hD) (fun i H' _ e => Same.seq e.1 hS) (fun i x H' hx e => ⟨rfl, ?_⟩) (fun H1 e => sort_tail hR (prz_of hR.1 h2 e) q)
  obtain ⟨d, he, hdd⟩ := dall_at' h2 hx
  have hf := hR.2 d (List.mem_of_getElem? he)
  exact prw_step (m := 2) (σ' := [some (.ref a), none, some x, none]) (by have := hR.1; omega) hD hx he (fact_ref hdd hf.1 hf.2) e rfl (lk_key hf.1 hf.2).1 (lk_key hf.1 hf.2).2.2.2 (inner_yv rfl (hdd.same e.1) hf.1 hf.2)
end
end Sm
/-! What the law sorts, rises as the program asks it. -/
namespace Sm
open PySem PySem.Spec PyProof.Rows L2 Vd
open PySem.W (EachIs AllAlike Sortable dataLe dataLt alike alikeAll keyToks keyToksAll)
theorem ltDs_cons {d e : PyData} {r q : List PyData} : ltDs (d :: r) (e :: q) = if eqD d e = true then ltDs r q else ltD d e := by rw [ltDs]
theorem eqDs_cons {d e : PyData} {r q : List PyData} : eqDs (d :: r) (e :: q) = (eqD d e && eqDs r q) := by rw [eqDs]
theorem eqD_tup {r q : List PyData} : eqD (.tuple r) (.tuple q) = eqDs r q := by rw [eqD]
theorem ltD_tup {r q : List PyData} : ltD (.tuple r) (.tuple q) = ltDs r q := by rw [ltD]
theorem ltDs_nil : ltDs [] [] = false := by rw [ltDs]; rfl
mutual
theorem eqv_key : ∀ {d e : PyData}, keyT d = true → keyT e = true → PyData.eqv d e = eqD d e
  | .int i, .int j, _, _ => by simp [PyData.eqv, eqD]
  | .str i, .str j, _, _ => by simp [PyData.eqv, eqD]
  | .tuple ds, .tuple es, kd, ke => by
    unfold keyT at kd ke
    have := eqvs_key kd ke
    simp only [PyData.eqv, eqD]
    exact this
  | .int _, .str _, _, _ | .int _, .tuple _, _, _ | .str _, .int _, _, _ | .str _, .tuple _, _, _ | .tuple _, .int _, _, _ | .tuple _, .str _, _, _ => by simp [PyData.eqv, eqD]
  | .none, _, h, _ | .bool _, _, h, _ | .list _, _, h, _ | .dict _, _, h, _ | .int _, .none, _, h | .int _, .bool _, _, h | .int _, .list _, _, h | .int _, .dict _, _, h
  | .str _, .none, _, h | .str _, .bool _, _, h | .str _, .list _, _, h | .str _, .dict _, _, h | .tuple _, .none, _, h | .tuple _, .bool _, _, h | .tuple _, .list _, _, h | .tuple _, .dict _, _, h => by
    unfold keyT at h
    cases h
theorem eqvs_key : ∀ {ds es : List PyData}, keyTs ds = true → keyTs es = true → PyData.eqvAll ds es = eqDs ds es
  | [], [], _, _ => by simp [PyData.eqvAll, eqDs]
  | [], _ :: _, _, _ => by simp [PyData.eqvAll, eqDs]
  | _ :: _, [], _, _ => by simp [PyData.eqvAll, eqDs]
  | d :: r, e :: q, kd, ke => by
    unfold keyTs at kd ke
    obtain ⟨a1, a2⟩ := Bool.and_eq_true_iff.mp kd
    obtain ⟨b1, b2⟩ := Bool.and_eq_true_iff.mp ke
    have h1 := eqv_key a1 b1
    have h2 := eqvs_key a2 b2
    simp only [PyData.eqvAll, eqDs]
    rw [h1, h2]
end
mutual
theorem lt_key : ∀ {d e : PyData}, keyT d = true → keyT e = true → alike d e = true → dataLt d e = ltD d e
  | .int i, .int j, _, _, _ => by
    rw [PySem.W.dataLt_int]
    unfold ltD
    rfl
  | .str i, .str j, _, _, _ => by
    rw [PySem.W.dataLt_str]
    unfold ltD
    rfl
  | .tuple ds, .tuple es, kd, ke, h => by
    unfold keyT at kd ke
    rw [PySem.W.dataLt_tuple]
    unfold ltD
    exact lts_key kd ke (by simpa [alike] using h)
  | .int _, .str _, _, _, h | .int _, .tuple _, _, _, h | .str _, .int _, _, _, h | .str _, .tuple _, _, _, h | .tuple _, .int _, _, _, h | .tuple _, .str _, _, _, h => by simp [alike] at h
  | .none, _, h, _, _ | .bool _, _, h, _, _ | .list _, _, h, _, _ | .dict _, _, h, _, _ | .int _, .none, _, h, _ | .int _, .bool _, _, h, _ | .int _, .list _, _, h, _ | .int _, .dict _, _, h, _
  | .str _, .none, _, h, _ | .str _, .bool _, _, h, _ | .str _, .list _, _, h, _ | .str _, .dict _, _, h, _ | .tuple _, .none, _, h, _ | .tuple _, .bool _, _, h, _ | .tuple _, .list _, _, h, _ | .tuple _, .dict _, _, h, _ => by
    unfold keyT at h
    cases h
theorem lts_key : ∀ {ds es : List PyData}, keyTs ds = true → keyTs es = true → alikeAll ds es = true → PyProof.Rows.lexLt itemOrd (keyToksAll ds) (keyToksAll es) = ltDs ds es
  | [], [], _, _, _ => by
    unfold ltDs
    rw [keyToksAll]
    decide
  | [], e :: q, _, _, _ => by
    unfold ltDs
    rw [keyToksAll, keyToksAll]
    rfl
  | d :: r, [], _, _, _ => by
    unfold ltDs
    rw [keyToksAll, keyToksAll]
    rfl
  | d :: r, e :: q, kd, ke, h => by
    unfold keyTs at kd ke
    obtain ⟨a1, a2⟩ := Bool.and_eq_true_iff.mp kd
    obtain ⟨b1, b2⟩ := Bool.and_eq_true_iff.mp ke
    obtain ⟨h1, h2⟩ := PySem.W.alike_all_cons h
    rw [PySem.W.dataLt_cons h1, lts_key a2 b2 h2, lt_key a1 b1 h1, eqv_key a1 b1, ltDs_cons]
end
/-- unlike keys of which one is not ahead of the other one are in order -/
theorem lt_of {d e : PyData} (kd : keyT d = true) (ke : keyT e = true) (h : alike d e = true) (h' : dataLt e d = false) (n : d ≠ e) : ltD d e = true := by
  rw [← lt_key kd ke h]
  cases hq : dataLt d e with
  | true => rfl
  | false =>
    exfalso
    have et : keyToks d = keyToks e := (listOrd itemOrd).total (keyToks d) (keyToks e) hq h'
    have ev : PyData.eqv d e = true := by
      cases hv : PyData.eqv d e with
      | true => rfl
      | false =>
        have h2 := (PySem.W.toks_eqv d e h).2 hv [.inl 0] [.inl 1]
        rw [et, PySem.W.lex_pre] at h2
        have h3 := (PySem.W.toks_eqv d e h).2 hv [.inl 1] [.inl 0]
        rw [et, PySem.W.lex_pre] at h3
        rw [← h2] at h3
        exact absurd h3 (by decide)
    rw [eqv_key kd ke] at ev
    exact n (eqD_of ev)
theorem rows_same : ∀ {xs ys : List PyData}, (∀ x ∈ xs, WorthK x) → (∀ y ∈ ys, WorthK y) → eqDs (xs.map lwD) (ys.map lwD) = eqDs (xs.map wkD) (ys.map wkD) ∧ ltDs (xs.map lwD) (ys.map lwD) = ltDs (xs.map wkD) (ys.map wkD)
  | [], [], _, _ => ⟨rfl, rfl⟩
  | [], _ :: _, _, _ => by
    refine ⟨?_, ?_⟩ <;> simp [eqDs, ltDs]
  | _ :: _, [], _, _ => by
    refine ⟨?_, ?_⟩ <;> simp [eqDs, ltDs]
  | x :: r, y :: q, hx, hy => by
    obtain ⟨i1, i2⟩ := rows_same (xs := r) (ys := q) (fun z m => hx z (List.mem_cons_of_mem _ m)) (fun z m => hy z (List.mem_cons_of_mem _ m))
    obtain ⟨h1, h2⟩ := lw_same (hx x List.mem_cons_self) (hy y List.mem_cons_self)
    rw [List.map_cons, List.map_cons, List.map_cons, List.map_cons, eqDs_cons, eqDs_cons, ltDs_cons, ltDs_cons, h1, h2, i1, i2]
    exact ⟨rfl, rfl⟩
theorem fk_same {d e : PyData} (od : okD d = true) (hd : factD d = true) (oe : okD e = true) (he : factD e = true) : ltD (lkD d) (lkD e) = ltD (fkD d) (fkD e) := by
  obtain ⟨n, ws, rfl, _, _, hw⟩ := fact_row od hd
  obtain ⟨m, us, rfl, _, _, hu⟩ := fact_row oe he
  obtain ⟨h1, h2⟩ := rows_same hw hu
  have key : ∀ A B A' B' : List PyData, eqDs A B = eqDs A' B' → ltDs A B = ltDs A' B' → ltD (.tuple [.str n, .tuple A]) (.tuple [.str m, .tuple B]) = ltD (.tuple [.str n, .tuple A']) (.tuple [.str m, .tuple B']) := fun A B A' B' e1 e2 => by
    rw [ltD_tup, ltD_tup, ltDs_cons, ltDs_cons, ltDs_cons, ltDs_cons, eqD_tup, eqD_tup, ltD_tup, ltD_tup, e1, e2]
  exact key _ _ _ _ h1 h2
theorem ris_of : ∀ {ds : List PyData}, ds.Pairwise (fun a b => ltD a b = true) → risD ds = true
  | [], _ => rfl
  | [d], _ => rfl
  | d :: e :: r, h => by
    obtain ⟨h1, h2⟩ := List.pairwise_cons.mp h
    have ih := ris_of (ds := e :: r) h2
    unfold risD at ih ⊢
    show (ltD d e && ((e :: r).zip ((e :: r).drop 1)).all fun e => ltD e.1 e.2) = true
    rw [h1 e List.mem_cons_self, ih]
    rfl
/-- what the law sorts is let by the program -/
theorem sortOf_facts {ds rs : List PyData} (hR : RightF ds) (h : SortOf ds rs) : (∀ d ∈ rs, okD d = true ∧ factD d = true) ∧ risD (rs.map fkD) = true := by
  obtain ⟨hm, ks, nd, h1, h2, e⟩ := h
  have hf : ∀ d ∈ rs, okD d = true ∧ factD d = true := fun d hd => hR.2 d (hm d hd)
  refine ⟨hf, ris_of ?_⟩
  have pk : (ks.mergeSort (dataLe false id)).Pairwise fun a b => dataLe false id a b = true := by
    have T := PySem.W.sortLe_total (listOrd itemOrd) false (fun b : PyData => keyToks (id b))
    exact List.pairwise_mergeSort (le := dataLe false id) (fun a b c x y => T.trans a b c x y) (fun a b => (Bool.or_eq_true _ _).mpr (T.total a b)) ks
  have nd2 : (ks.mergeSort (dataLe false id)).Nodup := (List.mergeSort_perm ks _).nodup_iff.mpr nd
  rw [← e] at pk nd2
  have both := (List.pairwise_map.mp pk).and (List.pairwise_map.mp nd2)
  refine List.pairwise_map.mpr (both.imp_of_mem fun {a b} ha hb ⟨x, y⟩ => ?_)
  have fa := hf a ha
  have fb := hf b hb
  rw [← fk_same fa.1 fa.2 fb.1 fb.2]
  have x2 : dataLt (lkD b) (lkD a) = false := by
    rw [PySem.W.dataLe_eq] at x
    simpa using x
  exact lt_of (lk_key fa.1 fa.2).1 (lk_key fb.1 fb.2).1 (lk_alike fa.1 fa.2 fb.1 fb.2) x2 y
end Sm
/-! Stretches: a name, two bounds. -/
namespace Sm
open PySem PySem.Spec PyProof.Rows L2 Vd
def ltS (x y : Str) : Bool := decide (x.cps.toList < y.cps.toList)
theorem ltS_self (n : Str) : ltS n n = false := decide_eq_false (List.lt_irrefl _)
theorem str_eq (x y : Str) : decide (V.str x = V.str y) = decide (x = y) := by
  rw [Bool.eq_iff_iff]
  simp
def RowB (l : List PyData) : Prop := l.length ≤ 5 ∧ ∀ x ∈ l, worthD x = true ∧ okD x = true
def bdD : Option (List PyData) → PyData
  | none => .none
  | some l => .tuple l
structure Stt where
  n : Str
  lo : Option (List PyData)
  hi : Option (List PyData)
def Stt.d (s : Stt) : PyData := .tuple [.str s.n, bdD s.lo, bdD s.hi]
structure Stt.Ok (s : Stt) : Prop where
  nm : nameD (.str s.n) = true
  lo : ∀ l, s.lo = some l → RowB l
  hi : ∀ l, s.hi = some l → RowB l
def loB : Option (List PyData) → List PyData → Bool
  | none, _ => false
  | some l, ws => ltD (rkD (.tuple (ws.take l.length))) (rkD (.tuple l))
def hiB : Option (List PyData) → List PyData → Bool
  | none, _ => false
  | some l, ws => ltD (rkD (.tuple l)) (rkD (.tuple (ws.take l.length)))
/-- where a row stands: -1 ahead of the stretch, 1 behind it, 0 in it -/
def side (s : Stt) (m : Str) (ws : List PyData) : Int := if m = s.n then (if loB s.lo ws = true then -1 else if hiB s.hi ws = true then 1 else 0) else if ltS m s.n = true then -1 else 1
theorem side_in {s : Stt} {m : Str} {ws : List PyData} (h : m = s.n) : decide (side s m ws = 0) = (!loB s.lo ws && !hiB s.hi ws) := by
  unfold side
  rw [if_pos h]
  cases loB s.lo ws <;> cases hiB s.hi ws <;> rfl
theorem side_lo {s : Stt} {m : Str} {ws : List PyData} (h : m = s.n) : decide (side s m ws < 0) = loB s.lo ws := by
  unfold side
  rw [if_pos h]
  cases loB s.lo ws <;> cases hiB s.hi ws <;> rfl
theorem side_ne {s : Stt} {m : Str} {ws : List PyData} (h : ¬ m = s.n) : side s m ws = if ltS m s.n = true then -1 else 1 := by
  unfold side
  rw [if_neg h]
def sideF (s : Stt) : PyData → Int
  | .tuple [.str m, .tuple ws] => side s m ws
  | _ => 0
def RowF (ws : List PyData) : Prop := ws.length ≤ 1000 ∧ ∀ x ∈ ws, WorthK x
theorem RowB.f {l : List PyData} (h : RowB l) : RowF l := ⟨by have := h.1; omega, fun x hx => worth_kind (h.2 x hx).1⟩
theorem RowF.k {l : List PyData} (h : RowF l) : RowK (.tuple l) := ⟨l, rfl, h.1, keyTs_worths h.2⟩
theorem RowF.cut {l : List PyData} (h : RowF l) (n : Nat) : RowF (l.take n) := ⟨by have := h.1; rw [List.length_take]; omega, fun x hx => h.2 x (List.mem_of_mem_take hx)⟩
theorem rk_can {a b : List PyData} (ha : RowF a) (hb : RowF b) : canD (rkD (.tuple a)) (rkD (.tuple b)) = true := by
  unfold rkD partsD canD
  exact wks_can ha.2 hb.2
theorem rk_dp {a : List PyData} (ha : RowF a) : dpD (rkD (.tuple a)) ≤ 60 := by
  have := wks_dp ha.2
  unfold rkD partsD dpD
  simp only
  omega
/-- a fact by its parts -/
def fRow : PyData → List PyData
  | .tuple [_, .tuple ws] => ws
  | _ => []
theorem fact_rf {d : PyData} (o : okD d = true ∧ factD d = true) : ∃ m ws, d = .tuple [.str m, .tuple ws] ∧ RowF ws := by
  obtain ⟨n, ws, rfl, _, z, hw⟩ := fact_row o.1 o.2
  exact ⟨n, ws, rfl, by omega, hw⟩
/-- all([test of one for one in t]), the tuple being made of things -/
theorem all_tup2 {α : Type} {K : PySem.W.Frag} {a : Addr} {xs : List V} {f : α → PyData} {ts : List α} {p : α → Bool} {i j : Nat} {te : TE} {σ : L2.St} {H : Hp} {Q : VK} {tp : TE} (htp : ∀ Q' : VK, Q' (.ref a) H → tp σ H Q') (h1 : SqT K H a xs) (hd : DdAll K H xs (ts.map f)) (hz : ts.length ≤ 4000) (hw : ∀ v, wipe ((wipe σ [j]).set j v) [j] = wipe σ [j])
    (hte : ∀ (v : V) (t : α) (H' : Hp) (Q : VK), t ∈ ts → Same H H' → Dd K H' v (f t) → (∀ H'', Same H' H'' → Q (.bl (p t)) H'') → te ((wipe σ [j]).set j (some v)) H' Q) (q : ∀ H', Same H H' → Q (.bl (ts.all p)) H') : tCB (rAll K) (tCons (tLc (iTup K tp) (gName j) tYes te [j]) tNil) σ H Q := by
  have hx0 : xs.length = ts.length := by rw [dall_len hd, List.length_map]
  refine htp _ ⟨a, rfl, ⟨_, h1⟩, fun D hD => ?_⟩
  refine lc_tup (xs := xs) (fun i H' => Same H H' ∧ H' D = some (.lst ((ts.take i).map fun d => V.bl (p d)))) ⟨same_up hD, upd_same⟩ (fun i H' _ e => SqT.same e.1 h1) (fun i x H' hx e => ?_) (fun H1 e => ?_)
  · obtain ⟨d, he, hdd⟩ := dall_at' hd hx
    rw [List.getElem?_map] at he
    obtain ⟨t, ht, rfl⟩ := Option.map_eq_some_iff.mp he
    have il : i < ts.length := (List.getElem?_eq_some_iff.mp ht).1
    refine ⟨hw _, ?_⟩
    refine hte x t H' _ (List.mem_of_getElem? ht) e.1 (Dd.same e.1 hdd) fun H2 s2 => ⟨_, s2 _ _ e.2, ?_, ?_, ?_⟩
    · rw [List.length_map, List.length_take, sizeLine_eq]
      omega
    · intro c' o z
      rw [upd_ne (ne_of_none z hD)]
      exact s2 _ _ (e.1 c' o z)
    · rw [upd_same, List.take_add_one, ht, List.map_append]
      rfl
  · refine ⟨D, ts.map p, rfl, SqL.of ?_, ?_⟩
    · rw [e.2, hx0, List.take_of_length_le (Nat.le_refl _), List.map_map]
      rfl
    · rw [allB]
      exact q H1 e.1
section
variable {K : PySem.W.Frag}
theorem take_any {H : Hp} {Q : VK} {a : Addr} {xs : List V} {n : Nat} (ha : TupN H a xs) (q : ∀ T H', Same H H' → TupN H' T (xs.take n) → Q (.ref T) H') : rSlA K (.ref a) none (some (n : Int)) H Q := by
  refine ⟨a, xs, rfl, ha.sq, fun w => ?_, fun _ T nT => ?_⟩
  · rw [HT.sIx_nat] at w
    refine q a H (Same.refl H) ?_
    rw [List.take_of_length_le (by omega)]
    exact ha
  · refine q T _ (same_up nT) (.inl ?_)
    rw [upd_same]
    congr 2
    unfold cutV
    rw [HT.sIx_nat, HT.sIx_none, List.drop_zero, Nat.sub_zero]
    rcases Nat.lt_or_ge n xs.length with h | h
    · rw [Nat.min_eq_left (by omega)]
    · rw [Nat.min_eq_right h, List.take_of_length_le (Nat.le_refl _), List.take_of_length_le h]
theorem yv_cut {σ : L2.St} {H : Hp} {i j : Nat} {x y : V} {ws l : List PyData} (hx : σ[i]? = some (some x)) (hy : σ[j]? = some (some y)) (hd : Dd K H x (.tuple ws)) (he : Dd K H y (.tuple l)) :
    YV K (tSl (rSlA K) (tVar i) tNoPart (tPart (tCB (fun xs H Q => ∃ p ys, xs = [.ref p] ∧ (SqL K H p ys ∨ SqT K H p ys) ∧ Q (.int ys.length) H) (tCons (tVar j) tNil)))) σ H (.tuple (ws.take l.length)) := fun H1 Q s q => by
  obtain ⟨a, xs, rfl, h1, h2⟩ := ofTup (hd.same s)
  obtain ⟨b, ys, rfl, g1, g2⟩ := ofTup (he.same s)
  refine ⟨_, hx, _, hy, b, ys, rfl, .inr g1.sq, _, rfl, ?_⟩
  rw [dall_len g2]
  exact take_any h1 fun T H' s' hT => q _ _ s' (.tup hT (dall_take _ (DdAll.same s' h2)))
end
section
variable {P : Program} {w : World} {K : PySem.W.Frag} {mg : Str → Option Value} {base : Heap}
def spBound (K : PySem.W.Frag) : Sp := fun vs H Q _ => ∃ (v : V) (o : Option (List PyData)), vs = [v] ∧ Dd K H v (bdD o) ∧ (∀ l, o = some l → RowB l) ∧ ∀ H', Same H H' → Q (.bl true) H'
theorem scBound : FnScope ["thing", "worth"] ["thing"] (defScope sBound) := ⟨rfl, rfl, rfl, by decide +kernel, rfl, by decide +kernel, by decide +kernel⟩
theorem ok_bound {f : Addr} {fd : FuncData} (F : FnP K "is_bound" sBound f fd) (M : Nm mg) (DT : Df P w K mg base "is_tuple_of" 1 ["thing", "least", "most"] (spTupOf K)) (DWo : DA P w K mg base "is_free_worth" 2 worthD) : FnOk P w K mg base CX0 3 f fd ["thing"] (spBound K) := by
  refine F.ok scBound (fun vs H Q E h => ?_) (fun cdv A outer s H vs Q E hr h => ?_)
  · obtain ⟨v, o, rfl, _⟩ := h
    rfl
  obtain ⟨v, o, rfl, hd, ho, q⟩ := h
  refine ⟨_, PSs.nox (pss_one (ps_ret (pe_or (pe_cmpR op_isN (pv 0) pe_non (nomark _)) (pe_one (pe_and (pe_df DT hr (by decide) (pa_cons (pv 0) (pa_cons pe_int (pa_cons pe_int pa_nil)))) (pe_one (pe_callB (r := rAll K) (cr_all rfl) (by rfl) M.all (by decide +kernel) (pa_cons (pe_lc (own := [("worth", 1)]) (g := gName 1) (tt := tYes) (by rfl) scBound.nd (pi_tup (pv 0)) (blkOk_by (N := ["thing", "worth"]) (sc := defScope sBound) (by decide +kernel)) (fun _ _ _ _ _ => pg_name (i := 1) scBound.nd rfl (Or.inl rfl)) (fun _ _ _ _ _ => pts_nil) (fun _ _ _ _ _ => (pe_df DWo hr (by decide) (pa_cons (pv 1) pa_nil)))) pa_nil)))))))), ?_⟩
  cases o with
  | none =>
    cases hd
    exact ⟨_, rfl, rfl, _, rfl, tst (fun _ => q _ (Same.refl H)) fun e => by cases e⟩
  | some l =>
    obtain ⟨z, hw⟩ := ho l rfl
    have hd : Dd K H v (.tuple l) := hd
    obtain ⟨a, xs, rfl, h1, h2⟩ := ofTup hd
    refine ⟨_, rfl, rfl, _, rfl, tst (fun e => by cases e) fun _ => ?_⟩
    refine ⟨_, rfl, _, _, 0, 5, rfl, hd, _, rfl, ?_⟩
    rw [show tupOfD 0 5 (.tuple l) = true from by simp [tupOfD]; omega]
    refine tst (fun _ => ?_) fun e => by cases e
    refine all_tup (p := worthD) (i := 0) (j := 1) (fun Q' q' => ⟨_, rfl, q'⟩) h1.sq h2 (by omega) (fun _ => rfl) (fun v d H' Q m s hd q => ?_) fun H1 s1 => ?_
    · exact ⟨_, rfl, v, d, rfl, hd, (hw d m).2, q⟩
    · rw [List.all_eq_true.mpr fun x hx => (hw x hx).1]
      exact q H1 s1
def spStr (K : PySem.W.Frag) : Sp := fun vs H Q _ => ∃ (v : V) (t : Stt), vs = [v] ∧ Dd K H v t.d ∧ t.Ok ∧ ∀ H', Same H H' → Q (.bl true) H'
theorem scStretch : FnScope ["thing"] ["thing"] (defScope sStretch) := ⟨rfl, rfl, rfl, by decide +kernel, rfl, by decide +kernel, by decide +kernel⟩
theorem name_ok {n : Str} (h : nameD (.str n) = true) : okD (.str n) = true := by
  have := (name_sml h).2
  unfold okD
  exact decide_eq_true (by omega)
theorem ok_stretch {f : Addr} {fd : FuncData} (F : FnP K "is_stretch" sStretch f fd) (DT : Df P w K mg base "is_tuple_of" 1 ["thing", "least", "most"] (spTupOf K)) (DNm : DA P w K mg base "is_name" 1 nameD) (DB : Df P w K mg base "is_bound" 3 ["thing"] (spBound K)) : FnOk P w K mg base CX0 4 f fd ["thing"] (spStr K) := by
  refine F.ok scStretch (fun vs H Q E h => ?_) (fun cdv A outer s H vs Q E hr h => ?_)
  · obtain ⟨v, t, rfl, _⟩ := h
    rfl
  obtain ⟨v, t, rfl, hd, ht, q⟩ := h
  refine ⟨_, PSs.nox (pss_cons (ps_if (PW.pt (pw_or (pt_not (pt_val (pe_df DT hr (by decide) (pa_cons (pv 0) (pa_cons pe_int (pa_cons pe_int pa_nil)))))) (pw_or1 (pt_not (pt_val (pe_df DNm hr (by decide) (pa_cons (pe_ix (r := rIxT K) ix_tup (pv 0) pe_int (fun _ _ => rfl)) pa_nil))))))) (pss_one (ps_ret pe_bl)) pss_nil)
      (pss_one (ps_ret (pe_and (pe_df DB hr (by decide) (pa_cons (pe_ix (r := rIxT K) ix_tup (pv 0) pe_int (fun _ _ => rfl)) pa_nil)) (pe_one (pe_df DB hr (by decide) (pa_cons (pe_ix (r := rIxT K) ix_tup (pv 0) pe_int (fun _ _ => rfl)) pa_nil))))))), ?_⟩
  obtain ⟨p, xs, rfl, h0, h2⟩ := ofTup (show Dd K H v (.tuple [.str t.n, bdD t.lo, bdD t.hi]) from hd)
  have ix : ∀ {H' : Hp} (i : Nat) (d : PyData), Same H H' → [PyData.str t.n, bdD t.lo, bdD t.hi][i]? = some d → ∃ u, atI xs (i : Int) = some u ∧ Dd K H' u d ∧ SqT K H' p xs := fun {H'} i d s e => by
    obtain ⟨u, h3, h4⟩ := dall_at h2 e
    exact ⟨u, atI_nat h3, h4.same s, SqT.same s h0.sq⟩
  refine ⟨_, rfl, _, _, 3, 3, rfl, hd, _, rfl, ?_⟩
  rw [show tupOfD 3 3 t.d = true from rfl]
  refine tst (fun e => by cases e) fun _ => ?_
  obtain ⟨u, e0, g0, s0⟩ := ix (H' := H) 0 _ (Same.refl H) rfl
  refine ⟨_, rfl, p, xs, 0, u, rfl, rfl, s0, e0, u, .str t.n, rfl, g0, name_ok ht.nm, fun H1 s1 => ⟨_, rfl, ?_⟩⟩
  rw [ht.nm]
  refine iteF ?_
  obtain ⟨u1, e1, g1, s1'⟩ := ix (H' := H1) 1 _ s1 rfl
  refine ⟨_, rfl, p, xs, 1, u1, rfl, rfl, s1', e1, u1, t.lo, rfl, g1, ht.lo, fun H2 s2 => ⟨_, rfl, tst (fun _ => ?_) fun e => by cases e⟩⟩
  obtain ⟨u2, e2, g2, s2'⟩ := ix (H' := H2) 2 _ (s1.trans s2) rfl
  exact ⟨_, rfl, p, xs, 2, u2, rfl, rfl, s2', e2, u2, t.hi, rfl, g2, ht.hi, fun H3 s3 => q H3 ((s1.trans s2).trans s3)⟩
/-- these stretches -/
def StrsK (d : PyData) (ts : List Stt) : Prop := d = .tuple (ts.map Stt.d) ∧ ts.length ≤ 4000 ∧ ∀ t ∈ ts, t.Ok
def spCkS (K : PySem.W.Frag) : Sp := fun vs H Q _ => ∃ (v : V) (d : PyData) (ts : List Stt), vs = [v] ∧ Dd K H v d ∧ StrsK d ts ∧ ∀ H', Same H H' → Q .non H'
theorem scCkS : FnScope ["thing", "part"] ["thing"] (defScope sCkS) := ⟨rfl, rfl, rfl, by decide +kernel, rfl, by decide +kernel, by decide +kernel⟩
theorem ok_cks {f : Addr} {fd : FuncData} (F : FnP K "check_stretches" sCkS f fd) (M : Nm mg) (DS : Df P w K mg base "is_stretch" 4 ["thing"] (spStr K)) : FnOk P w K mg base CX0 5 f fd ["thing"] (spCkS K) := by
  refine F.ok scCkS (fun vs H Q E h => ?_) (fun cdv A outer s H vs Q E hr h => ?_)
  · obtain ⟨v, d, ts, rfl, _⟩ := h
    rfl
  obtain ⟨v, d, ts, rfl, hd, ⟨rfl, hz, hn⟩, q⟩ := h
  refine ⟨_, PSs.nox (pss_one (ps_if (PW.pt (pw_or (pt_not (pt_val (pe_callB (id := "isinstance") (r := rIsi K) call_isi (by rfl) M.isinstance (by decide +kernel) (pa_cons (pv 0) (pa_cons (ty_cls (n := "tuple") M.tuple (by rfl) (by decide +kernel)) pa_nil))))) (pw_or1 (pt_not (pt_val (pe_callB (r := rAll K) (cr_all rfl) (by rfl) M.all (by decide +kernel) (pa_cons (pe_lc (own := [("part", 1)]) (g := gName 1) (tt := tYes) (by rfl) scCkS.nd (pi_tup (pv 0)) (blkOk_by (N := ["thing", "part"]) (sc := defScope sCkS) (by decide +kernel)) (fun _ _ _ _ _ => pg_name (i := 1) scCkS.nd rfl (Or.inl rfl)) (fun _ _ _ _ _ => pts_nil) (fun _ _ _ _ _ => (pe_df DS hr (by decide) (pa_cons (pv 1) pa_nil)))) pa_nil))))))) (pss_one (ps_never)) pss_nil)), ?_⟩
  obtain ⟨a, xs, rfl, h0, h2⟩ := ofTup hd
  refine ⟨_, rfl, _, _, _, _, _, rfl, .ty _, tyx hd, kit_ty (kT _), _, rfl, tst (fun e => by cases e) fun _ => ?_⟩
  refine all_tup (p := fun _ => true) (i := 0) (j := 1) (fun Q' q' => ⟨_, rfl, q'⟩) h0.sq h2 (by rw [List.length_map]; exact hz) (fun _ => rfl) (fun v d H' Q m s hd q => ?_) fun H1 s1 => ?_
  · obtain ⟨t, hm, rfl⟩ := List.mem_map.mp m
    exact ⟨_, rfl, v, t, rfl, hd, hn t hm, q⟩
  · rw [show (ts.map Stt.d).all (fun _ => true) = true from List.all_eq_true.mpr fun _ _ => rfl]
    exact ⟨_, rfl, tst (fun e => by cases e) fun _ => q H1 s1⟩
/-! ### bounds -/
def spRB (K : PySem.W.Frag) (g : Stt → List PyData → Bool) : Sp := fun vs H Q _ => ∃ (v x : V) (t : Stt) (ws : List PyData), vs = [v, x] ∧ Dd K H v t.d ∧ t.Ok ∧ Dd K H x (.tuple ws) ∧ RowF ws ∧ ∀ H', Same H H' → Q (.bl (g t ws)) H'
theorem st_ix {H : Hp} {v : V} {t : Stt} (hd : Dd K H v t.d) : ∃ p xs u1 u2, v = .ref p ∧ SqT K H p xs ∧ atI xs 0 = some (.str t.n) ∧ atI xs 1 = some u1 ∧ atI xs 2 = some u2 ∧ Dd K H u1 (bdD t.lo) ∧ Dd K H u2 (bdD t.hi) := by
  obtain ⟨p, xs, rfl, h0, h2⟩ := ofTup (show Dd K H v (.tuple [.str t.n, bdD t.lo, bdD t.hi]) from hd)
  obtain ⟨u0, e0, g0⟩ := dall_at h2 (i := 0) rfl
  obtain ⟨u1, e1, g1⟩ := dall_at h2 (i := 1) rfl
  obtain ⟨u2, e2, g2⟩ := dall_at h2 (i := 2) rfl
  cases g0
  exact ⟨p, xs, u1, u2, rfl, h0.sq, atI_nat e0, atI_nat e1, atI_nat e2, g1, g2⟩
theorem bd_non {H : Hp} {u : V} {o : Option (List PyData)} (h : Dd K H u (bdD o)) : decide (u = .non) = o.isNone := by
  cases o with
  | none =>
    cases h
    rfl
  | some l =>
    obtain ⟨p, _, rfl, _⟩ := ofTup (show Dd K H u (.tuple l) from h)
    rfl
theorem scRB : FnScope ["stretch", "row", "low"] ["stretch", "row"] (defScope sRB) := ⟨rfl, rfl, rfl, by decide +kernel, rfl, by decide +kernel, by decide +kernel⟩
theorem ok_rb {f : Addr} {fd : FuncData} (F : FnP K "is_row_below" sRB f fd) (M : Nm mg) (DRK : DK P w K mg base "row_key" 2 "row" RowK rkD) : FnOk P w K mg base CX0 3 f fd ["stretch", "row"] (spRB K fun t ws => loB t.lo ws) := by
  refine F.ok scRB (fun vs H Q E h => ?_) (fun cdv A outer s H vs Q E hr h => ?_)
  · obtain ⟨v, x, t, ws, rfl, _⟩ := h
    rfl
  obtain ⟨v, x, t, ws, rfl, hd, ht, hx, hw, q⟩ := h
  refine ⟨_, PSs.nox (pss_cons (ps_set (i := 2) scRB.nd rfl (Or.inl rfl) (pe_ix (r := rIxT K) ix_tup (pv 0) pe_int (fun _ _ => rfl)))
      (pss_one (ps_ret (pe_and (pe_cmpR op_notN (pv 2) pe_non (nomark _)) (pe_one (pe_cmpR (r := rLtK K) (op_ltK (hu64 hr)) (pe_df DRK hr (by decide) (pa_cons (pe_slice (r := rSlA K) sl_tupA (pv 1) po_none (po_some (pe_callB call_len_seq (by rfl) M.len PySem.boot_len (pa_cons (pv 2) pa_nil)))) pa_nil)) (pe_df DRK hr (by decide) (pa_cons (pv 2) pa_nil)) (nomark _))))))), ?_⟩
  obtain ⟨p, xs, u1, u2, rfl, sq, _, e1, _, g1, _⟩ := st_ix hd
  refine ⟨_, rfl, p, xs, 1, u1, rfl, rfl, sq, e1, _, rfl, rfl, _, rfl, ?_⟩
  rw [bd_non g1]
  have q : ∀ H', Same H H' → Q (.bl (loB t.lo ws)) H' := q
  have hlo := ht.lo
  cases e : t.lo with
  | none =>
    rw [e] at q
    exact q _ (Same.refl H)
  | some l =>
    rw [e] at q g1 hlo
    have hl := (hlo l rfl).f
    have g1 : Dd K H u1 (.tuple l) := g1
    refine tst (fun _ => ?_) fun e => by cases e
    refine yv_df (yv_cut (i := 1) (j := 2) rfl rfl hx g1) (hw.cut _).k H _ (Same.refl H) fun v1 H1 s1 d1 => ?_
    refine yv_df (yv_var (m := 2) rfl (g1.same s1)) hl.k H1 _ (Same.refl H1) fun v2 H2 s2 d2 => ?_
    exact ⟨_, _, d1.same s2, d2, rk_key (hw.cut _).k, rk_key hl.k, rk_can (hw.cut _) hl, rk_dp (hw.cut _), rk_dp hl, q _ (s1.trans s2)⟩
theorem scRA : FnScope ["stretch", "row", "high"] ["stretch", "row"] (defScope sRA) := ⟨rfl, rfl, rfl, by decide +kernel, rfl, by decide +kernel, by decide +kernel⟩
theorem ok_ra {f : Addr} {fd : FuncData} (F : FnP K "is_row_above" sRA f fd) (M : Nm mg) (DRK : DK P w K mg base "row_key" 2 "row" RowK rkD) : FnOk P w K mg base CX0 3 f fd ["stretch", "row"] (spRB K fun t ws => hiB t.hi ws) := by
  refine F.ok scRA (fun vs H Q E h => ?_) (fun cdv A outer s H vs Q E hr h => ?_)
  · obtain ⟨v, x, t, ws, rfl, _⟩ := h
    rfl
  obtain ⟨v, x, t, ws, rfl, hd, ht, hx, hw, q⟩ := h
  refine ⟨_, PSs.nox (pss_cons (ps_set (i := 2) scRA.nd rfl (Or.inl rfl) (pe_ix (r := rIxT K) ix_tup (pv 0) pe_int (fun _ _ => rfl)))
      (pss_one (ps_ret (pe_and (pe_cmpR op_notN (pv 2) pe_non (nomark _)) (pe_one (pe_cmpR (r := rGtK K) (op_gtK (hu64 hr)) (pe_df DRK hr (by decide) (pa_cons (pe_slice (r := rSlA K) sl_tupA (pv 1) po_none (po_some (pe_callB call_len_seq (by rfl) M.len PySem.boot_len (pa_cons (pv 2) pa_nil)))) pa_nil)) (pe_df DRK hr (by decide) (pa_cons (pv 2) pa_nil)) (nomark _))))))), ?_⟩
  obtain ⟨p, xs, u1, u2, rfl, sq, _, _, e2, _, g2⟩ := st_ix hd
  refine ⟨_, rfl, p, xs, 2, u2, rfl, rfl, sq, e2, _, rfl, rfl, _, rfl, ?_⟩
  rw [bd_non g2]
  have q : ∀ H', Same H H' → Q (.bl (hiB t.hi ws)) H' := q
  have hhi := ht.hi
  cases e : t.hi with
  | none =>
    rw [e] at q
    exact q _ (Same.refl H)
  | some l =>
    rw [e] at q g2 hhi
    have hl := (hhi l rfl).f
    have g2 : Dd K H u2 (.tuple l) := g2
    refine tst (fun _ => ?_) fun e => by cases e
    refine yv_df (yv_cut (i := 1) (j := 2) rfl rfl hx g2) (hw.cut _).k H _ (Same.refl H) fun v1 H1 s1 d1 => ?_
    refine yv_df (yv_var (m := 2) rfl (g2.same s1)) hl.k H1 _ (Same.refl H1) fun v2 H2 s2 d2 => ?_
    exact ⟨_, _, d1.same s2, d2, rk_key (hw.cut _).k, rk_key hl.k, rk_can (hw.cut _) hl, rk_dp (hw.cut _), rk_dp hl, q _ (s1.trans s2)⟩
/-! ### a look at a stretch and a fact -/
def spSF (K : PySem.W.Frag) (g : Int → Bool) : Sp := fun vs H Q _ => ∃ (v x : V) (t : Stt) (f : PyData), vs = [v, x] ∧ Dd K H v t.d ∧ t.Ok ∧ Dd K H x f ∧ (okD f = true ∧ factD f = true) ∧ ∀ H', Same H H' → Q (.bl (g (sideF t f))) H'
theorem spSF_len {g : Int → Bool} {x y : Str} : ∀ vs H Q E, spSF K g vs H Q E → vs.length = [x, y].length := fun vs H Q E h => by
  obtain ⟨v, x, t, f, rfl, _⟩ := h
  rfl
theorem fa_ix {H : Hp} {x : V} {m : Str} {r : PyData} (hd : Dd K H x (.tuple [.str m, r])) : ∃ p u, x = .ref p ∧ SqT K H p [.str m, u] ∧ Dd K H u r := by
  obtain ⟨p, xs, rfl, h0, h2⟩ := ofTup hd
  cases h2 with
  | cons g0 h2 =>
    cases h2 with
    | cons g1 h2 =>
      cases h2
      cases g0
      exact ⟨p, _, rfl, h0.sq, g1⟩
abbrev DRow (P : Program) (w : World) (K : PySem.W.Frag) (mg : Str → Option Value) (base : Heap) (x : Str) (g : Stt → List PyData → Bool) : Prop := Df P w K mg base x 3 ["stretch", "row"] (spRB K g)
theorem scIn : FnScope ["stretch", "fact", "name", "row"] ["stretch", "fact"] (defScope sIn) := ⟨rfl, rfl, rfl, by decide +kernel, rfl, by decide +kernel, by decide +kernel⟩
theorem ok_in {f : Addr} {fd : FuncData} (F : FnP K "is_in" sIn f fd) (DRB : DRow P w K mg base "is_row_below" fun t ws => loB t.lo ws) (DRA : DRow P w K mg base "is_row_above" fun t ws => hiB t.hi ws) : FnOk P w K mg base CX0 4 f fd ["stretch", "fact"] (spSF K fun n => decide (n = 0)) := by
  refine F.ok scIn spSF_len (fun cdv A outer s H vs Q E hr h => ?_)
  obtain ⟨v, x, t, f, rfl, hd, ht, hx, hf, q⟩ := h
  obtain ⟨m, ws, rfl, hw⟩ := fact_rf hf
  have q : ∀ H', Same H H' → Q (.bl (decide (side t m ws = 0))) H' := q
  refine ⟨_, PSs.nox (pss_cons (ps_asg (pv 1) (pg_tup rfl (pgs_cons (pg_name (i := 2) scIn.nd rfl (Or.inl rfl)) (pgs_cons (pg_name (i := 3) scIn.nd rfl (Or.inl rfl)) pgs_nil))))
      (pss_one (ps_ret (pe_and (pe_cmpR op_eq (pv 2) (pe_ix (r := rIxT K) ix_tup (pv 0) pe_int (fun _ _ => rfl)) (nomark _)) (pe_and (pe_not (pe_df DRB hr (by decide) (pa_cons (pv 0) (pa_cons (pv 3) pa_nil)))) (pe_one (pe_not (pe_df DRA hr (by decide) (pa_cons (pv 0) (pa_cons (pv 3) pa_nil)))))))))), ?_⟩
  obtain ⟨p, xs, u1, u2, rfl, sq, e0, _, _, _, _⟩ := st_ix hd
  obtain ⟨b, u, rfl, sb, hu⟩ := fa_ix hx
  refine ⟨_, rfl, b, _, rfl, sb, rfl, _, _, rfl, _, _, rfl, rfl, ?_⟩
  refine ⟨_, rfl, _, rfl, p, xs, 0, .str t.n, rfl, rfl, sq, e0, rfl, ?_⟩
  rw [str_eq]
  refine ⟨_, rfl, tst (fun e => ?_) fun e => ?_⟩
  · rw [side_in (of_decide_eq_true e)] at q
    refine ⟨_, rfl, _, rfl, _, u, t, ws, rfl, hd, ht, hu, hw, fun H1 s1 => ⟨_, rfl, _, rfl, tst (fun e1 => ?_) fun e1 => ?_⟩⟩
    · have e1 : (!loB t.lo ws) = true := e1
      rw [e1, Bool.true_and] at q
      exact ⟨_, rfl, _, rfl, _, u, t, ws, rfl, hd.same s1, ht, hu.same s1, hw, fun H2 s2 => ⟨_, rfl, q _ (s1.trans s2)⟩⟩
    · have e1 : (!loB t.lo ws) = false := e1
      rw [e1, Bool.false_and] at q
      exact q _ s1
  · rw [side_ne (of_decide_eq_false e)] at q
    split at q <;> exact q _ (Same.refl H)
theorem scBelow : FnScope ["stretch", "fact", "name", "row"] ["stretch", "fact"] (defScope sBelow) := ⟨rfl, rfl, rfl, by decide +kernel, rfl, by decide +kernel, by decide +kernel⟩
theorem ok_below {f : Addr} {fd : FuncData} (F : FnP K "is_below" sBelow f fd) (DRB : DRow P w K mg base "is_row_below" fun t ws => loB t.lo ws) : FnOk P w K mg base CX0 4 f fd ["stretch", "fact"] (spSF K fun n => decide (n < 0)) := by
  refine F.ok scBelow spSF_len (fun cdv A outer s H vs Q E hr h => ?_)
  obtain ⟨v, x, t, f, rfl, hd, ht, hx, hf, q⟩ := h
  obtain ⟨m, ws, rfl, hw⟩ := fact_rf hf
  have q : ∀ H', Same H H' → Q (.bl (decide (side t m ws < 0))) H' := q
  refine ⟨_, PSs.nox (pss_cons (ps_asg (pv 1) (pg_tup rfl (pgs_cons (pg_name (i := 2) scBelow.nd rfl (Or.inl rfl)) (pgs_cons (pg_name (i := 3) scBelow.nd rfl (Or.inl rfl)) pgs_nil))))
      (pss_one (ps_ret (pe_or (pe_cmpR (r := rLtK K) (op_ltK (hu64 hr)) (pv 2) (pe_ix (r := rIxT K) ix_tup (pv 0) pe_int (fun _ _ => rfl)) (nomark _)) (pe_one (pe_and (pe_cmpR op_eq (pv 2) (pe_ix (r := rIxT K) ix_tup (pv 0) pe_int (fun _ _ => rfl)) (nomark _)) (pe_one (pe_df DRB hr (by decide) (pa_cons (pv 0) (pa_cons (pv 3) pa_nil)))))))))), ?_⟩
  obtain ⟨p, xs, u1, u2, rfl, sq, e0, _, _, _, _⟩ := st_ix hd
  obtain ⟨b, u, rfl, sb, hu⟩ := fa_ix hx
  refine ⟨_, rfl, b, _, rfl, sb, rfl, _, _, rfl, _, _, rfl, rfl, ?_⟩
  have el : ltD (.str m) (.str t.n) = ltS m t.n := by
    unfold ltD
    rfl
  refine ⟨_, rfl, _, rfl, p, xs, 0, .str t.n, rfl, rfl, sq, e0, .str m, .str t.n, .str m, .str t.n, (by unfold keyT; rfl), (by unfold keyT; rfl), (by unfold canD; rfl), (by unfold dpD; omega), (by unfold dpD; omega), ?_⟩
  rw [el]
  refine ⟨_, rfl, tst (fun e => ?_) fun e => ?_⟩
  · have e : ltS m t.n = true := e
    have ne : ¬ m = t.n := fun z => by
      rw [z, ltS_self] at e
      cases e
    rw [side_ne ne, if_pos e] at q
    exact q _ (Same.refl H)
  · have e : ltS m t.n = false := e
    refine ⟨_, rfl, _, rfl, p, xs, 0, .str t.n, rfl, rfl, sq, e0, rfl, ?_⟩
    rw [str_eq]
    refine ⟨_, rfl, tst (fun e2 => ?_) fun e2 => ?_⟩
    · rw [side_lo (of_decide_eq_true e2)] at q
      exact ⟨_, rfl, _, rfl, _, u, t, ws, rfl, hd, ht, hu, hw, q⟩
    · rw [side_ne (of_decide_eq_false e2), if_neg (by rw [e]; exact Bool.false_ne_true)] at q
      exact q _ (Same.refl H)
theorem scAbove : FnScope ["stretch", "fact"] ["stretch", "fact"] (defScope sAbove) := ⟨rfl, rfl, rfl, by decide +kernel, rfl, by decide +kernel, by decide +kernel⟩
theorem ok_above {f : Addr} {fd : FuncData} (F : FnP K "is_above" sAbove f fd) (DIn : Df P w K mg base "is_in" 4 ["stretch", "fact"] (spSF K fun n => decide (n = 0))) (DBe : Df P w K mg base "is_below" 4 ["stretch", "fact"] (spSF K fun n => decide (n < 0))) : FnOk P w K mg base CX0 5 f fd ["stretch", "fact"] (spSF K fun n => decide (0 < n)) := by
  refine F.ok scAbove spSF_len (fun cdv A outer s H vs Q E hr h => ?_)
  obtain ⟨v, x, t, f, rfl, hd, ht, hx, hf, q⟩ := h
  have q : ∀ H', Same H H' → Q (.bl (decide (0 < sideF t f))) H' := q
  refine ⟨_, PSs.nox (pss_one (ps_ret (pe_and (pe_not (pe_df DIn hr (by decide) (pa_cons (pv 0) (pa_cons (pv 1) pa_nil)))) (pe_one (pe_not (pe_df DBe hr (by decide) (pa_cons (pv 0) (pa_cons (pv 1) pa_nil)))))))), ?_⟩
  refine ⟨_, rfl, _, rfl, v, x, t, f, rfl, hd, ht, hx, hf, fun H1 s1 => ⟨_, rfl, _, rfl, tst (fun e => ⟨_, rfl, _, rfl, v, x, t, f, rfl, hd.same s1, ht, hx.same s1, hf, fun H2 s2 => ⟨_, rfl, ?_⟩⟩) fun e => ?_⟩⟩
  · have e : (!decide (sideF t f = 0)) = true := e
    have q := q _ (s1.trans s2)
    have : (!decide (sideF t f < 0)) = decide (0 < sideF t f) := by
      rw [Bool.eq_iff_iff]
      simp at e ⊢
      omega
    rw [this]
    exact q
  · have e : (!decide (sideF t f = 0)) = false := e
    have q := q _ s1
    have : decide (0 < sideF t f) = false := by
      simp at e
      simp
      omega
    rw [this] at q
    exact q
/-! ### shut places -/
def shutTo (t : Stt) (oa ob : Option PyData) : Bool := (ob.any fun b => decide (sideF t b < 0)) || oa.any fun a => decide (0 < sideF t a)
def shutAll (ts : List Stt) (oa ob : Option PyData) : Bool := ts.all fun t => shutTo t oa ob
/-- nothing, or a fact -/
def OF (o : Option PyData) : Prop := ∀ d, o = some d → okD d = true ∧ factD d = true
def odD (o : Option PyData) : PyData := o.getD .none
theorem of_non {H : Hp} {x : V} {o : Option PyData} (h : Dd K H x (odD o)) (k : OF o) : decide (x = .non) = o.isNone := by
  cases o with
  | none =>
    cases h
    rfl
  | some d =>
    obtain ⟨m, ws, rfl, _⟩ := fact_rf (k d rfl)
    obtain ⟨p, _, rfl, _⟩ := ofTup (show Dd K H x (.tuple [.str m, .tuple ws]) from h)
    rfl
def spShutTo (K : PySem.W.Frag) : Sp := fun vs H Q _ => ∃ (v x y : V) (t : Stt) (oa ob : Option PyData), vs = [v, x, y] ∧ Dd K H v t.d ∧ t.Ok ∧ Dd K H x (odD oa) ∧ Dd K H y (odD ob) ∧ OF oa ∧ OF ob ∧ ∀ H', Same H H' → Q (.bl (shutTo t oa ob)) H'
theorem scShutTo : FnScope ["stretch", "ahead", "behind"] ["stretch", "ahead", "behind"] (defScope sShutTo) := ⟨rfl, rfl, rfl, by decide +kernel, rfl, by decide +kernel, by decide +kernel⟩
theorem ok_shutto {f : Addr} {fd : FuncData} (F : FnP K "is_shut_to" sShutTo f fd) (DBe : Df P w K mg base "is_below" 4 ["stretch", "fact"] (spSF K fun n => decide (n < 0))) (DAb : Df P w K mg base "is_above" 5 ["stretch", "fact"] (spSF K fun n => decide (0 < n))) : FnOk P w K mg base CX0 6 f fd ["stretch", "ahead", "behind"] (spShutTo K) := by
  refine F.ok scShutTo (fun vs H Q E h => ?_) (fun cdv A outer s H vs Q E hr h => ?_)
  · obtain ⟨v, x, y, t, oa, ob, rfl, _⟩ := h
    rfl
  obtain ⟨v, x, y, t, oa, ob, rfl, hd, ht, hx, hy, ka, kb, q⟩ := h
  refine ⟨_, PSs.nox (pss_cons (ps_if (PW.pt (pw_and (pt_cmpR op_notN (pv 2) pe_non (nomark _)) (pw_and1 (pt_val (pe_df DBe hr (by decide) (pa_cons (pv 0) (pa_cons (pv 2) pa_nil))))))) (pss_one (ps_ret pe_bl)) pss_nil)
      (pss_one (ps_ret (pe_and (pe_cmpR op_notN (pv 1) pe_non (nomark _)) (pe_one (pe_df DAb hr (by decide) (pa_cons (pv 0) (pa_cons (pv 1) pa_nil)))))))), ?_⟩
  have tail : ∀ H1, Same H H1 → (∀ H', Same H H' → Q (.bl (oa.any fun a => decide (0 < sideF t a))) H') → (tRet (tAndV (tOp (fun x y H Q => y = V.non ∧ Q (V.bl !decide (x = V.non)) H) (tVar 1) (tC V.non)) (tCall (spSF K fun n => decide (0 < n)) [] E0 (tCons (tVar 0) (tCons (tVar 1) tNil))))) { nx := fun _ H' => Q V.non H', rt := Q } [some v, some x, some y] H1 := fun H1 s1 q => by
    refine ⟨_, rfl, rfl, ?_⟩
    rw [of_non hx ka]
    cases oa with
    | none => exact ⟨_, rfl, tst (fun e => by cases e) fun _ => q _ s1⟩
    | some a => exact ⟨_, rfl, tst (fun _ => ⟨_, rfl, _, rfl, v, x, t, a, rfl, hd.same s1, ht, Dd.same s1 (show Dd K H x a from hx), ka a rfl, fun H2 s2 => q _ (s1.trans s2)⟩) fun e => by cases e⟩
  refine ⟨_, rfl, rfl, ?_⟩
  rw [of_non hy kb]
  cases ob with
  | none => exact ⟨_, rfl, tst (fun e => by cases e) fun _ => tail H (Same.refl H) q⟩
  | some b =>
    have q : ∀ H', Same H H' → Q (.bl (decide (sideF t b < 0) || oa.any fun a => decide (0 < sideF t a))) H' := q
    refine ⟨_, rfl, tst (fun _ => ⟨_, rfl, _, rfl, v, y, t, b, rfl, hd, ht, hy, kb b rfl, fun H1 s1 => ⟨_, rfl, tst (fun e => ?_) fun e => tail H1 s1 ?_⟩⟩) fun e => by cases e⟩
    · have e : decide (sideF t b < 0) = true := e
      rw [e, Bool.true_or] at q
      exact q _ s1
    · have e : decide (sideF t b < 0) = false := e
      rw [e, Bool.false_or] at q
      exact q
def spShut (K : PySem.W.Frag) : Sp := fun vs H Q _ => ∃ (v x y : V) (d : PyData) (ts : List Stt) (oa ob : Option PyData), vs = [v, x, y] ∧ Dd K H v d ∧ StrsK d ts ∧ Dd K H x (odD oa) ∧ Dd K H y (odD ob) ∧ OF oa ∧ OF ob ∧ ∀ H', Same H H' → Q (.bl (shutAll ts oa ob)) H'
theorem scShut : FnScope ["stretches", "ahead", "behind", "stretch"] ["stretches", "ahead", "behind"] (defScope sShut) := ⟨rfl, rfl, rfl, by decide +kernel, rfl, by decide +kernel, by decide +kernel⟩
/-- `all` over a tuple made of things -/
theorem ok_shut {f : Addr} {fd : FuncData} (F : FnP K "is_shut" sShut f fd) (M : Nm mg) (DSh : Df P w K mg base "is_shut_to" 6 ["stretch", "ahead", "behind"] (spShutTo K)) : FnOk P w K mg base CX0 7 f fd ["stretches", "ahead", "behind"] (spShut K) := by
  refine F.ok scShut (fun vs H Q E h => ?_) (fun cdv A outer s H vs Q E hr h => ?_)
  · obtain ⟨v, x, y, d, ts, oa, ob, rfl, _⟩ := h
    rfl
  obtain ⟨v, x, y, d, ts, oa, ob, rfl, hd, ⟨rfl, hz, hn⟩, hx, hy, ka, kb, q⟩ := h
  refine ⟨_, PSs.nox (pss_one (ps_ret (pe_callB (r := rAll K) (cr_all rfl) (by rfl) M.all (by decide +kernel) (pa_cons (pe_lc (own := [("stretch", 3)]) (g := gName 3) (tt := tYes) (by rfl) scShut.nd (pi_tup (pv 0)) (blkOk_by (N := ["stretches", "ahead", "behind", "stretch"]) (sc := defScope sShut) (by decide +kernel)) (fun _ _ _ _ _ => pg_name (i := 3) scShut.nd rfl (Or.inl rfl)) (fun _ _ _ _ _ => pts_nil) (fun _ _ _ _ _ => (pe_df DSh hr (by decide) (pa_cons (pv 3) (pa_cons (pv 1) (pa_cons (pv 2) pa_nil)))))) pa_nil)))), ?_⟩
  obtain ⟨a, xs, rfl, h0, h2⟩ := ofTup hd
  refine all_tup2 (p := fun t => shutTo t oa ob) (f := Stt.d) (i := 0) (j := 3) (fun Q' q' => ⟨_, rfl, q'⟩) h0.sq h2 hz (fun _ => rfl) (fun v t H' Q m s hd q => ?_) fun H1 s1 => q H1 s1
  exact ⟨_, rfl, _, rfl, _, rfl, v, x, y, t, oa, ob, rfl, hd, hn t m, hx.same s, hy.same s, ka, kb, q⟩
end
end Sm
/-! Trees of facts, as mathematics. -/
namespace Sm
open PySem PySem.Spec PyProof.Rows L2 Vd
inductive Tr where
  | cut (n : Int) (m : Nat)
  | mk (cs : List Tr) (own : List PyData)
def Tr.kids : Tr → List Tr
  | .cut _ _ => []
  | .mk cs _ => cs
def Tr.own : Tr → List PyData
  | .cut _ _ => []
  | .mk _ own => own
mutual
def trMany : Tr → Nat
  | .cut _ m => m
  | .mk cs own => own.length + trManys cs
def trManys : List Tr → Nat
  | [] => 0
  | t :: r => trMany t + trManys r
end
mutual
def trCount : Tr → Nat
  | .cut _ _ => 0
  | .mk cs _ => 1 + trCounts cs
def trCounts : List Tr → Nat
  | [] => 0
  | t :: r => trCount t + trCounts r
end
/-- what stands behind the mark of a node -/
def inter : List (Int × Int) → List Int → List Int
  | [], _ => []
  | (a, b) :: r, ns => a :: b :: (ns.take 1 ++ inter r (ns.drop 1))
mutual
def trNum (p : Int) : Tr → Int
  | .cut n _ => n
  | .mk cs own => if cs.isEmpty = true then mixF p (nText (1 :: own.map (nmF p))) else mixF p (nText (2 :: inter (trPairs p cs) (own.map (nmF p))))
def trPairs (p : Int) : List Tr → List (Int × Int)
  | [] => []
  | t :: r => (trNum p t, (trMany t : Int)) :: trPairs p r
end
mutual
def shD : Tr → PyData
  | .cut n m => .tuple [.str "cut", .int n, .int (m : Int)]
  | .mk cs own => if cs.isEmpty = true then .tuple [.str "leaf", .tuple own] else .tuple [.str "node", .tuple (shDs cs), .tuple own]
def shDs : List Tr → List PyData
  | [] => []
  | t :: r => shD t :: shDs r
end
/-! ### cutting a list at the places where q holds -/
abbrev Cut := List (List PyData) × List PyData × List PyData
def cutS (q : PyData → Bool) (s : Cut) (d : PyData) : Cut := if q d = true then (s.1 ++ [s.2.2], s.2.1 ++ [d], []) else (s.1, s.2.1, s.2.2 ++ [d])
def cutA (q : PyData → Bool) (ds : List PyData) : Cut := ds.foldl (cutS q) ([], [], [])
def pieces (q : PyData → Bool) (ds : List PyData) : List (List PyData) := (cutA q ds).1 ++ [(cutA q ds).2.2]
def owns (q : PyData → Bool) (ds : List PyData) : List PyData := (cutA q ds).2.1
theorem cut_inv {q : PyData → Bool} {all : List PyData} : ∀ {ds : List PyData} {s : Cut}, (∀ d ∈ ds, d ∈ all) → (∀ l ∈ s.1, ∀ d ∈ l, d ∈ all ∧ q d = false) → (∀ d ∈ s.2.1, d ∈ all ∧ q d = true) → (∀ d ∈ s.2.2, d ∈ all ∧ q d = false) →
    (∀ l ∈ (ds.foldl (cutS q) s).1, ∀ d ∈ l, d ∈ all ∧ q d = false) ∧ (∀ d ∈ (ds.foldl (cutS q) s).2.1, d ∈ all ∧ q d = true) ∧ ∀ d ∈ (ds.foldl (cutS q) s).2.2, d ∈ all ∧ q d = false
  | [], s, _, h1, h2, h3 => ⟨h1, h2, h3⟩
  | d :: r, s, ha, h1, h2, h3 => by
    rw [List.foldl_cons]
    have hd := ha d List.mem_cons_self
    have hr : ∀ x ∈ r, x ∈ all := fun x hx => ha x (List.mem_cons_of_mem _ hx)
    unfold cutS
    cases hq : q d with
    | true =>
      rw [if_pos rfl]
      refine cut_inv hr (fun l hl => ?_) (fun x hx => ?_) (fun x hx => nomatch hx)
      · rcases List.mem_append.mp hl with hl | hl
        · exact h1 l hl
        · rw [List.mem_singleton.mp hl]
          exact h3
      · rcases List.mem_append.mp hx with hx | hx
        · exact h2 x hx
        · rw [List.mem_singleton.mp hx]
          exact ⟨hd, hq⟩
    | false =>
      rw [if_neg Bool.false_ne_true]
      refine cut_inv hr h1 h2 fun x hx => ?_
      rcases List.mem_append.mp hx with hx | hx
      · exact h3 x hx
      · rw [List.mem_singleton.mp hx]
        exact ⟨hd, hq⟩
theorem pieces_in {q : PyData → Bool} {ds l : List PyData} (h : l ∈ pieces q ds) : ∀ d ∈ l, d ∈ ds ∧ q d = false := by
  obtain ⟨h1, _, h3⟩ := cut_inv (q := q) (all := ds) (ds := ds) (s := ([], [], [])) (fun _ h => h) (fun _ h => nomatch h) (fun _ h => nomatch h) (fun _ h => nomatch h)
  rcases List.mem_append.mp h with h | h
  · exact h1 l h
  · rw [List.mem_singleton.mp h]
    exact h3
theorem owns_in {q : PyData → Bool} {ds : List PyData} : ∀ d ∈ owns q ds, d ∈ ds ∧ q d = true := (cut_inv (q := q) (all := ds) (ds := ds) (s := ([], [], [])) (fun _ h => h) (fun _ h => nomatch h) (fun _ h => nomatch h) (fun _ h => nomatch h)).2.1
/-! ### the tree of a list -/
def rkP (p : Int) (d : PyData) : Nat := rkI (nmF p d)
def treeF (p : Int) : Nat → List PyData → Tr
  | 0, ds => .mk [] ds
  | k + 1, ds => if ds.any (fun d => rkP p d == k + 1) = true then .mk ((pieces (fun d => rkP p d == k + 1) ds).map (treeF p k)) (owns (fun d => rkP p d == k + 1) ds) else treeF p k ds
theorem treeF_low {p : Int} {j : Nat} {ds : List PyData} (h : ∀ d ∈ ds, rkP p d ≤ j) : ∀ k, j ≤ k → treeF p k ds = treeF p j ds
  | 0, hk => by
    obtain rfl : j = 0 := by omega
    rfl
  | k + 1, hk => by
    rcases Nat.lt_or_ge j (k + 1) with hl | hg
    · rw [treeF, if_neg, treeF_low h k (by omega)]
      intro e
      obtain ⟨d, hd, e⟩ := List.any_eq_true.mp e
      have := h d hd
      have := eq_of_beq e
      omega
    · obtain rfl : j = k + 1 := by omega
      rfl
theorem treeF_mk (p : Int) : ∀ (k : Nat) (ds : List PyData), ∃ cs own, treeF p k ds = .mk cs own
  | 0, ds => ⟨_, _, rfl⟩
  | k + 1, ds => by
    unfold treeF
    split
    · exact ⟨_, _, rfl⟩
    · exact treeF_mk p k ds
/-- the tree at all ranks -/
def tree (p : Int) (ds : List PyData) : Tr := treeF p 6 ds
theorem tree_leaf {p : Int} {ds : List PyData} (h : ∀ d ∈ ds, rkP p d = 0) : tree p ds = .mk [] ds := by
  unfold tree
  rw [treeF_low (j := 0) (fun d hd => by rw [h d hd]; exact Nat.le_refl _) 6 (by omega)]
  rfl
theorem tree_node {p : Int} {ds : List PyData} {m : Nat} (h : ∀ d ∈ ds, rkP p d ≤ m + 1) (hm : ∃ d ∈ ds, rkP p d = m + 1) (m6 : m + 1 ≤ 6) : tree p ds = .mk ((pieces (fun d => rkP p d == m + 1) ds).map (tree p)) (owns (fun d => rkP p d == m + 1) ds) := by
  unfold tree
  rw [treeF_low h 6 m6, treeF, if_pos]
  · congr 1
    refine List.map_congr_left fun l hl => ?_
    refine (treeF_low (j := m) (fun d hd => ?_) 6 (by omega)).symm
    obtain ⟨h1, h2⟩ := pieces_in hl d hd
    have := h d h1
    have := beq_eq_false_iff_ne.mp h2
    omega
  · obtain ⟨d, hd, e⟩ := hm
    exact List.any_eq_true.mpr ⟨d, hd, by rw [e]; exact beq_self_eq_true _⟩
end Sm
/-! Pieces of a list by slices between places. -/
namespace Sm
open PySem PySem.Spec PyProof.Rows L2 Vd
def slc (ds : List PyData) (s e : Nat) : List PyData := (ds.drop s).take (e - s)
def slic (ds : List PyData) : Nat → List Nat → List (List PyData)
  | _, [] => []
  | s, e :: r => slc ds s e :: slic ds (e + 1) r
def slast : Nat → List Nat → Nat
  | s, [] => s
  | _, e :: r => slast (e + 1) r
theorem slic_zip (ds : List PyData) : ∀ (pl : List Nat) (s n : Nat), ((s :: pl.map (· + 1)).zip (pl ++ [n])).map (fun p => slc ds p.1 p.2) = slic ds s pl ++ [slc ds (slast s pl) n]
  | [], s, n => rfl
  | e :: r, s, n => by
    have ih := slic_zip ds r (e + 1) n
    rw [List.map_cons, List.cons_append, List.zip_cons_cons, List.map_cons, ih]
    rfl
theorem slic_snoc (ds : List PyData) : ∀ (pl : List Nat) (s e : Nat), slic ds s (pl ++ [e]) = slic ds s pl ++ [slc ds (slast s pl) e]
  | [], s, e => rfl
  | x :: r, s, e => by
    have ih := slic_snoc ds r (x + 1) e
    show slc ds s x :: slic ds (x + 1) (r ++ [e]) = slc ds s x :: (slic ds (x + 1) r ++ [slc ds (slast (x + 1) r) e])
    rw [ih]
theorem slast_snoc : ∀ (pl : List Nat) (s e : Nat), slast s (pl ++ [e]) = e + 1
  | [], _, _ => rfl
  | x :: r, _, e => slast_snoc r (x + 1) e
theorem slic_more (ds : List PyData) (d : PyData) : ∀ (pl : List Nat) (s : Nat), (∀ e ∈ pl, e ≤ ds.length) → slic (ds ++ [d]) s pl = slic ds s pl
  | [], _, _ => rfl
  | e :: r, s, h => by
    have ih := slic_more ds d r (e + 1) fun x hx => h x (List.mem_cons_of_mem _ hx)
    have h0 := h e List.mem_cons_self
    show slc (ds ++ [d]) s e :: _ = slc ds s e :: _
    rw [ih]
    congr 1
    unfold slc
    rcases Nat.lt_or_ge ds.length s with hs | hs
    · rw [show e - s = 0 by omega, List.take_zero, List.take_zero]
    · rw [List.drop_append_of_le_length hs, List.take_append_of_le_length (by rw [List.length_drop]; omega)]
/-- the places where q holds -/
def placesF (q : PyData → Bool) : Nat → List PyData → List Nat
  | _, [] => []
  | n, d :: r => if q d = true then n :: placesF q (n + 1) r else placesF q (n + 1) r
def places (q : PyData → Bool) (ds : List PyData) : List Nat := placesF q 0 ds
theorem placesF_app (q : PyData → Bool) : ∀ (ds es : List PyData) (n : Nat), placesF q n (ds ++ es) = placesF q n ds ++ placesF q (n + ds.length) es
  | [], es, n => rfl
  | d :: r, es, n => by
    have ih := placesF_app q r es (n + 1)
    rw [List.cons_append, placesF, placesF, ih, List.length_cons, show n + 1 + r.length = n + (r.length + 1) by omega]
    split <;> rfl
theorem placesF_lt (q : PyData → Bool) : ∀ (ds : List PyData) (n : Nat), ∀ e ∈ placesF q n ds, n ≤ e ∧ e < n + ds.length
  | [], n, e, h => nomatch h
  | d :: r, n, e, h => by
    have ih := placesF_lt q r (n + 1) e
    rw [List.length_cons]
    rw [placesF] at h
    split at h
    · rcases List.mem_cons.mp h with rfl | h
      · omega
      · have := ih h
        omega
    · have := ih h
      omega
theorem slast_le (q : PyData → Bool) (ds : List PyData) : slast 0 (places q ds) ≤ ds.length := by
  rcases List.eq_nil_or_concat (places q ds) with e | ⟨l, x, e⟩
  · rw [e]
    exact Nat.zero_le _
  · rw [List.concat_eq_append] at e
    rw [e, slast_snoc]
    have := (placesF_lt q ds 0 x (by show x ∈ places q ds; rw [e]; simp)).2
    omega
theorem snocInd {C : List PyData → Prop} (h0 : C []) (hs : ∀ l d, C l → C (l ++ [d])) (l : List PyData) : C l := by
  have : ∀ n (l : List PyData), l.length = n → C l := fun n => by
    induction n with
    | zero => exact fun l e => by rw [List.length_eq_zero_iff.mp e]; exact h0
    | succ n ih =>
      intro l e
      rcases List.eq_nil_or_concat l with rfl | ⟨m, x, rfl⟩
      · cases e
      · rw [List.concat_eq_append] at e ⊢
        exact hs m x (ih m (by rw [List.length_append] at e; simpa using e))
  exact this _ l rfl
theorem cut_places (q : PyData → Bool) (ds : List PyData) : (cutA q ds).1 = slic ds 0 (places q ds) ∧ (cutA q ds).2.2 = ds.drop (slast 0 (places q ds)) ∧ (cutA q ds).2.1 = ds.filter q := by
  induction ds using snocInd with
  | h0 => exact ⟨rfl, rfl, rfl⟩
  | hs l d ih =>
    obtain ⟨i1, i2, i3⟩ := ih
    have e : cutA q (l ++ [d]) = cutS q (cutA q l) d := by
      unfold cutA
      rw [List.foldl_append]
      rfl
    have ep : places q (l ++ [d]) = places q l ++ (if q d = true then [l.length] else []) := by
      unfold places
      rw [placesF_app, Nat.zero_add]
      rfl
    have hle : ∀ e ∈ places q l, e ≤ l.length := fun e he => by
      have := (placesF_lt q l 0 e he).2
      omega
    have hs := slast_le q l
    rw [e, ep]
    unfold cutS
    cases hq : q d with
    | true =>
      rw [if_pos rfl, if_pos rfl]
      refine ⟨?_, ?_, ?_⟩
      · show (cutA q l).1 ++ [(cutA q l).2.2] = _
        rw [slic_snoc, slic_more l d _ _ hle, i1, i2]
        congr 2
        unfold slc
        rw [List.drop_append_of_le_length hs, List.take_append_of_le_length (by rw [List.length_drop]; omega), List.take_of_length_le (by rw [List.length_drop]; omega)]
      · show [] = _
        rw [slast_snoc, List.drop_eq_nil_of_le (by rw [List.length_append]; exact Nat.le_refl _)]
      · show (cutA q l).2.1 ++ [d] = _
        rw [i3, List.filter_append, List.filter_cons_of_pos hq]
        rfl
    | false =>
      rw [if_neg Bool.false_ne_true, if_neg Bool.false_ne_true, List.append_nil]
      refine ⟨?_, ?_, ?_⟩
      · show (cutA q l).1 = _
        rw [slic_more l d _ _ hle, i1]
      · show (cutA q l).2.2 ++ [d] = _
        rw [i2, List.drop_append_of_le_length hs]
      · show (cutA q l).2.1 = _
        rw [i3, List.filter_append, List.filter_cons_of_neg (by rw [hq]; exact Bool.false_ne_true)]
        simp
/-- the pieces, as the program cuts them -/
theorem pieces_slices (q : PyData → Bool) (ds : List PyData) : pieces q ds = ((0 :: (places q ds).map (· + 1)).zip (places q ds ++ [ds.length])).map fun p => slc ds p.1 p.2 := by
  obtain ⟨h1, h2, _⟩ := cut_places q ds
  have hs := slast_le q ds
  rw [slic_zip]
  unfold pieces
  rw [h1, h2]
  congr 2
  unfold slc
  rw [List.take_of_length_le (by rw [List.length_drop]; exact Nat.le_refl _)]
theorem owns_filter (q : PyData → Bool) (ds : List PyData) : owns q ds = ds.filter q := (cut_places q ds).2.2
end Sm
/-! Parts in the heap: what they lean on stands for ever. -/
namespace Sm
open PySem PySem.Spec PyProof.Rows L2 Vd
/-- what is never written again: tuples, whole Parts (CP is their class) -/
def StayO (CP : Addr) : HO → Prop
  | .tup _ => True
  | .frz _ (.tup _) => True
  | .ins C _ fs => (C = CP ∧ fs.length = 6) ∨ ∃ n m, fs = [(("number" : Str), V.int n), (("many" : Str), V.int m)]
  | _ => False
theorem stay_not {CP C dx : Addr} {fs : List (Str × V)} (h6 : fs.length ≠ 6) (hk : ¬ (fs.headD (("" : Str), V.non)).1 = ("number" : Str)) : ¬ StayO CP (.ins C dx fs) := fun e => e.elim (fun e => h6 e.2) fun ⟨n, m, e⟩ => by
  subst e
  exact hk rfl
def Kt (CP : Addr) (H H' : Hp) : Prop := ∀ b o, H b = some o → StayO CP o → H' b = some o
section
variable {CP : Addr} {p : Int} {K : PySem.W.Frag} {H H' H2 : Hp}
theorem Kt.refl : Kt CP H H := fun _ _ h _ => h
theorem Kt.trans (x : Kt CP H H') (y : Kt CP H' H2) : Kt CP H H2 := fun b o h s => y b o (x b o h s) s
theorem kt_same (s : Same H H') : Kt CP H H' := fun b o h _ => s b o h
theorem kt_upd {a : Addr} {o u : HO} (h : H a = some o) (n : ¬ StayO CP o) : Kt CP H (upd H a u) := fun b v e s => by
  by_cases q : b = a
  · subst q
    rw [h] at e
    cases e
    exact absurd s n
  · rw [upd_ne q]
    exact e
theorem kt_new {a : Addr} {u : HO} (h : H a = none) : Kt CP H (upd H a u) := kt_same (same_up h)
theorem TupN.kt {a : Addr} {xs : List V} (h : TupN H a xs) (k : Kt CP H H') : TupN H' a xs := by
  rcases h with h | ⟨o, h⟩
  · exact .inl (k _ _ h trivial)
  · exact .inr ⟨o, k _ _ h trivial⟩
mutual
theorem dd_kt (k : Kt CP H H') : ∀ {d : PyData} {v : V}, keyT d = true → Dd K H v d → Dd K H' v d
  | .int i, v, _, h => by
    cases h
    exact .int i
  | .str x, v, _, h => by
    cases h
    exact .str x
  | .tuple ds, v, kd, h => by
    obtain ⟨q, xs, rfl, h1, h2⟩ := ofTup h
    unfold keyT at kd
    exact .tup (TupN.kt h1 k) (dds_kt k kd h2)
  | .none, _, h, _ | .bool _, _, h, _ | .list _, _, h, _ | .dict _, _, h, _ => by
    unfold keyT at h
    cases h
theorem dds_kt (k : Kt CP H H') : ∀ {ds : List PyData} {vs : List V}, keyTs ds = true → DdAll K H vs ds → DdAll K H' vs ds
  | [], vs, _, h => by
    cases h
    exact .nil
  | d :: r, vs, kd, h => by
    unfold keyTs at kd
    obtain ⟨a1, a2⟩ := Bool.and_eq_true_iff.mp kd
    cases h with
    | cons h1 h2 => exact .cons (dd_kt k a1 h1) (dds_kt k a2 h2)
end
/-- the fields of a Part -/
def partF (p : Int) (c o n : Addr) (cs : List Tr) (own : List PyData) : List (Str × V) :=
  [("children", .ref c), ("own", .ref o), ("numbers", .ref n), ("rank", .int (if cs.isEmpty = true then 0 else (rkI ((own.map (nmF p)).headD 0) : Int))), ("many", .int (trMany (.mk cs own) : Int)), ("number", .int (trNum p (.mk cs own)))]
mutual
def PartAt (CP : Addr) (p : Int) (K : PySem.W.Frag) (H : Hp) : Addr → Tr → Prop
  | a, .cut n m => ∃ dx, H a = some (.ins (He.ga K "Cut") dx [("number", .int n), ("many", .int (m : Int))])
  | a, .mk cs own => keyTs own = true ∧ ∃ (dx c o n : Addr) (ks : List Addr), H a = some (.ins CP dx (partF p c o n cs own)) ∧ TupN H c (ks.map V.ref) ∧ PartsAt CP p K H ks cs ∧ Dd K H (.ref o) (.tuple own) ∧ TupN H n ((own.map (nmF p)).map V.int)
def PartsAt (CP : Addr) (p : Int) (K : PySem.W.Frag) (H : Hp) : List Addr → List Tr → Prop
  | ks, [] => ks = []
  | ks, t :: ts => ∃ k r, ks = k :: r ∧ PartAt CP p K H k t ∧ PartsAt CP p K H r ts
end
mutual
theorem PartAt.kt (k : Kt CP H H') : ∀ {t : Tr} {a : Addr}, PartAt CP p K H a t → PartAt CP p K H' a t
  | .cut n m, a, h => by
    unfold PartAt at h ⊢
    obtain ⟨dx, h1⟩ := h
    exact ⟨dx, k _ _ h1 (.inr ⟨_, _, rfl⟩)⟩
  | .mk cs own, a, h => by
    unfold PartAt at h ⊢
    obtain ⟨ko, dx, c, o, n, ks, h1, h2, h3, h4, h5⟩ := h
    exact ⟨ko, dx, c, o, n, ks, k _ _ h1 (.inl ⟨rfl, rfl⟩), TupN.kt h2 k, PartsAt.kt k h3, dd_kt k (by unfold keyT; exact ko) h4, TupN.kt h5 k⟩
theorem PartsAt.kt (k : Kt CP H H') : ∀ {ts : List Tr} {ks : List Addr}, PartsAt CP p K H ks ts → PartsAt CP p K H' ks ts
  | [], ks, h => by
    unfold PartsAt at h ⊢
    exact h
  | t :: ts, ks, h => by
    unfold PartsAt at h ⊢
    obtain ⟨a, r, e, h1, h2⟩ := h
    exact ⟨a, r, e, PartAt.kt k h1, PartsAt.kt k h2⟩
end
/-- what the class Cut must have -/
structure CutK (K : PySem.W.Frag) : Prop where
  c : Cls K (He.ga K "Cut")
  n : NoAttr K (He.ga K "Cut") "number"
  m : NoAttr K (He.ga K "Cut") "many"
/-- a child's number and how many: of a Part, of a Cut -/
theorem part_nm {a : Addr} : ∀ {t : Tr}, PartAt CP p K H a t → ∃ C dx fs, H a = some (.ins C dx fs) ∧ (C = CP ∨ C = He.ga K "Cut") ∧ fs.lookup ("number" : Str) = some (V.int (trNum p t)) ∧ fs.lookup ("many" : Str) = some (V.int (trMany t : Int))
  | .cut n m, h => by
    unfold PartAt at h
    obtain ⟨dx, h1⟩ := h
    exact ⟨_, dx, _, h1, .inr rfl, by unfold trNum; rfl, by unfold trMany; rfl⟩
  | .mk cs own, h => by
    unfold PartAt at h
    obtain ⟨ko, dx, c, o, n, ks, h1, _⟩ := h
    exact ⟨_, dx, _, h1, .inl rfl, rfl, rfl⟩
theorem parts_len : ∀ {ts : List Tr} {ks : List Addr}, PartsAt CP p K H ks ts → ks.length = ts.length
  | [], ks, h => by
    unfold PartsAt at h
    rw [h]
    rfl
  | t :: ts, ks, h => by
    unfold PartsAt at h
    obtain ⟨a, r, rfl, _, h2⟩ := h
    rw [List.length_cons, List.length_cons, parts_len h2]
theorem parts_at : ∀ {ts : List Tr} {ks : List Addr} {i : Nat} {k : Addr}, PartsAt CP p K H ks ts → ks[i]? = some k → ∃ t, ts[i]? = some t ∧ PartAt CP p K H k t
  | [], ks, i, k, h, e => by
    unfold PartsAt at h
    rw [h] at e
    simp at e
  | t :: ts, ks, i, k, h, e => by
    unfold PartsAt at h
    obtain ⟨a, r, rfl, h1, h2⟩ := h
    cases i with
    | zero =>
      cases e
      exact ⟨t, rfl, h1⟩
    | succ i =>
      obtain ⟨u, e2, h3⟩ := parts_at (i := i) h2 (by simpa using e)
      exact ⟨u, by simpa using e2, h3⟩
theorem parts_app : ∀ {ts us : List Tr} {ks ls : List Addr}, PartsAt CP p K H ks ts → PartsAt CP p K H ls us → PartsAt CP p K H (ks ++ ls) (ts ++ us)
  | [], us, ks, ls, h, g => by
    unfold PartsAt at h
    rw [h]
    exact g
  | t :: ts, us, ks, ls, h, g => by
    unfold PartsAt at h
    obtain ⟨a, r, rfl, h1, h2⟩ := h
    rw [List.cons_append, List.cons_append]
    unfold PartsAt
    exact ⟨a, _, rfl, h1, parts_app h2 g⟩
end
end Sm
/-! _law_is of two things that are the same. -/
namespace Sm
open PySem PySem.Spec PyProof.Rows L2 Vd RZ
section
variable {P : Program} {w : World} {K : PySem.W.Frag} {mg : Str → Option Value} {base : Heap}
def isK : Nat → PyData → Bool
  | _, .int _ => true
  | _, .str _ => true
  | _, .none => true
  | n + 1, .tuple ds => decide (ds.length ≤ 4000) && ds.all (isK n)
  | n + 1, .list ds => decide (ds.length ≤ 4000) && ds.all (isK n)
  | _, _ => false
theorem kTL {K : PySem.W.Frag} (d : PyData) : PySem.W.kitAny K (.type (tyD d)) [.type "tuple", .type "list"] = some (isT d || isL d) := by
  refine kitAny_cons (kit_ty (kT d)) (fun e => ?_) (fun e => by rw [e]; rfl)
  rw [e, Bool.false_or]
  refine kitAny_cons (kit_ty (kL d)) (fun e2 => ?_) (fun e2 => e2)
  rw [e2]
  rfl
theorem lc_zipT {K : PySem.W.Frag} {a b : Addr} {xs ys : List V} {g : TG} {tt : TT} {te : TE} {vs : List Nat} {σ : L2.St} {H1 : Hp} {D : Addr} {Qd : Hp → Prop} (n : Nat) (hn : n = min xs.length ys.length) (Pv : Nat → Hp → Prop) (h0 : Pv 0 (upd H1 D (.lst []))) (hl : ∀ i H, Pv i H → SqT K H a xs ∧ SqT K H b ys)
    (hs : ∀ i x y T H, xs[i]? = some x → ys[i]? = some y → Pv i H → H T = none → g (.ref T) (wipe σ vs) (upd H T (.tup [x, y])) fun σ2 H2 => wipe σ2 vs = wipe σ vs ∧ tt σ2 H2 fun b H3 =>
      if b = true then te σ2 H3 fun y H4 => ∃ acc, H4 D = some (.lst acc) ∧ acc.length < sizeLine ∧ Pv (i + 1) (upd H4 D (.lst (acc ++ [y]))) else Pv (i + 1) H3) (hd : ∀ H, Pv n H → Qd H) :
    ∃ W : Nat → Nat → Hp → Prop, (∃ m, W 0 m (upd H1 D (.lst []))) ∧ ∀ i m H, W i m H →
      ((ItzT K a b).stop i H ∧ Qd H) ∨ ((ItzT K a b).go i H ∧ ∃ Nx : Hp → Prop, (∀ H', Nx H' → ∃ m', m' < m ∧ W (i + 1) m' H') ∧ ∀ x H', (ItzT K a b).yld i H x H' → g x (wipe σ vs) H' fun σ2 H2 => wipe σ2 vs = wipe σ vs ∧ tt σ2 H2 fun b H3 =>
        if b = true then te σ2 H3 fun y H4 => ∃ acc, H4 D = some (.lst acc) ∧ acc.length < sizeLine ∧ Nx (upd H4 D (.lst (acc ++ [y]))) else Nx H3) := by
  refine ⟨fun i m H => m = n - i ∧ i ≤ n ∧ Pv i H, ⟨n, by simp, Nat.zero_le _, h0⟩, ?_⟩
  rintro i m H ⟨rfl, hi, p⟩
  obtain ⟨qx, qy⟩ := hl i H p
  by_cases hlt : i < n
  · have hx : xs[i]? = some xs[i] := List.getElem?_eq_getElem (by omega)
    have hy : ys[i]? = some ys[i] := List.getElem?_eq_getElem (by omega)
    refine .inr ⟨⟨xs, ys, _, _, qx, qy, hx, hy⟩, Pv (i + 1), fun H' p' => ⟨n - (i + 1), by omega, rfl, hlt, p'⟩, fun v H' z => ?_⟩
    obtain ⟨T, x, y, rfl, hT, rfl, z1, z2⟩ := z
    exact hs i x y T H (z1 _ qx) (z2 _ qy) p hT
  · have e : i = n := by omega
    subst e
    exact .inl ⟨⟨xs, ys, qx, qy, by omega⟩, hd H p⟩
theorem ne_self (x : V) : (!decide (x = x)) = false := by rw [decide_eq_true rfl]; rfl
def spIs (K : PySem.W.Frag) : Nat → Sp
  | 0 => fun _ _ _ _ => False
  | n + 1 => fun vs H Q _ => ∃ (v1 v2 : V) (d : PyData), vs = [v1, v2] ∧ Dd K H v1 d ∧ Dd K H v2 d ∧ isK n d = true ∧ ∀ H', Same H H' → Q (.bl true) H'
theorem scIs : FnScope ["told", "due", "one", "two"] ["told", "due"] (defScope sIs) := ⟨rfl, rfl, rfl, by decide +kernel, rfl, by decide +kernel, by decide +kernel⟩
/-- the list of flags, all of them yes -/
theorem yes_step {H0 H2 : Hp} {D : Addr} {i n : Nat} (hD : H0 D = none) (hn : i < n) (hz : n ≤ 4000) (s : Same H0 H2) (e : H2 D = some (.lst ((List.replicate i true).map V.bl))) : ∃ acc, H2 D = some (.lst acc) ∧ acc.length < sizeLine ∧ Same H0 (upd H2 D (.lst (acc ++ [.bl true]))) ∧ (upd H2 D (.lst (acc ++ [.bl true]))) D = some (.lst ((List.replicate (i + 1) true).map V.bl)) := by
  refine ⟨_, e, ?_, ?_, ?_⟩
  · rw [List.length_map, List.length_replicate, sizeLine_eq]
    omega
  · intro c o z
    rw [upd_ne (ne_of_none z hD)]
    exact s c o z
  · rw [upd_same, List.replicate_succ', List.map_append]
    rfl
theorem yes_all {H0 H1 : Hp} {D : Addr} {n : Nat} {Q : VK} (s : Same H0 H1) (e : H1 D = some (.lst ((List.replicate n true).map V.bl))) (q : ∀ H', Same H0 H' → Q (.bl true) H') : rAll K [.ref D] H1 Q := by
  refine ⟨D, _, rfl, SqL.of e, ?_⟩
  rw [show ((List.replicate n true).all id) = true from List.all_eq_true.mpr fun x hx => (List.mem_replicate.mp hx).2]
  exact q H1 s
theorem ok_is {f : Addr} {fd : FuncData} (F : FnP K "_law_is" sIs f fd) (M : Nm mg) (M2 : Nm2 mg) (hm : mg "_law_is" = some (.ref f)) (hk : PySem.W.keepIn K (.ref f) = true) (hb : Binds K fd ["told", "due"] []) : ∀ n, FnOk P w K mg base CX0 n f fd ["told", "due"] (spIs K n)
  | 0 => ⟨fun vs H Q E h => h.elim, fun A outer s H args us vs Q E hr e0 hb' r h => h.elim⟩
  | n + 1 => by
    have DS : Df P w K mg base "_law_is" n ["told", "due"] (spIs K n) := ⟨f, fd, hm, hk, hb, ok_is F M M2 hm hk hb n⟩
    refine F.ok scIs (fun vs H Q E h => ?_) (fun cdv A outer s H vs Q E hr h => ?_)
    · obtain ⟨v1, v2, d, rfl, _⟩ := h
      rfl
    obtain ⟨v1, v2, d, rfl, h1, h2, ok, q⟩ := h
    refine ⟨_, PSs.nox (pss_cons (ps_if (pt_val (pe_callB (id := "isinstance") (r := rIsiT K) call_isiT (by rfl) M.isinstance (by decide +kernel) (pa_cons (pv 1) (pa_cons (pe_tup (pa_cons (ty_cls (n := "tuple") M.tuple (by rfl) (by decide +kernel)) (pa_cons (ty_cls (n := "list") M.list (by rfl) (by decide +kernel)) pa_nil))) pa_nil)))) (pss_cons (ps_if (PW.pt (pw_or (pt_cmpR op_ne (pe_callB (id := "isinstance") (r := rIsi K) call_isi (by rfl) M.isinstance (by decide +kernel) (pa_cons (pv 0) (pa_cons (ty_cls (n := "tuple") M.tuple (by rfl) (by decide +kernel)) pa_nil))) (pe_callB (id := "isinstance") (r := rIsi K) call_isi (by rfl) M.isinstance (by decide +kernel) (pa_cons (pv 1) (pa_cons (ty_cls (n := "tuple") M.tuple (by rfl) (by decide +kernel)) pa_nil))) (nomark _)) (pw_or1 (pt_not (pt_val (pe_callB (id := "isinstance") (r := rIsiT K) call_isiT (by rfl) M.isinstance (by decide +kernel) (pa_cons (pv 0) (pa_cons (pe_tup (pa_cons (ty_cls (n := "tuple") M.tuple (by rfl) (by decide +kernel)) (pa_cons (ty_cls (n := "list") M.list (by rfl) (by decide +kernel)) pa_nil))) pa_nil)))))))) (pss_one (ps_ret pe_bl)) pss_nil)
      (pss_one (ps_ret (pe_and (pe_cmpR op_eq (pe_callB call_len_seq (by rfl) M.len PySem.boot_len (pa_cons (pv 0) pa_nil)) (pe_callB call_len_seq (by rfl) M.len PySem.boot_len (pa_cons (pv 1) pa_nil)) (nomark _)) (pe_one (pe_callB (r := rAll K) (cr_all rfl) (by rfl) M.all (by decide +kernel) (pa_cons (pe_lc (own := [("one", 2), ("two", 3)]) (g := gTup K 2 (gCons (gName 2) (gCons (gName 3) gNil))) (tt := tYes) (by rfl) scIs.nd (pi_zipA (by rfl) M2.zip (pa_cons (pv 0) (pa_cons (pv 1) pa_nil))) (blkOk_by (N := ["told", "due", "one", "two"]) (sc := defScope sIs) (by decide +kernel)) (fun _ _ _ _ _ => (pg_tup rfl (pgs_cons (pg_name (i := 2) scIs.nd rfl (Or.inl rfl)) (pgs_cons (pg_name (i := 3) scIs.nd rfl (Or.inl rfl)) pgs_nil)))) (fun _ _ _ _ _ => pts_nil) (fun _ _ _ _ _ => (pe_df DS hr (Nat.le_refl _) (pa_cons (pv 2) (pa_cons (pv 3) pa_nil))))) pa_nil))))))) pss_nil)
      (pss_cons (ps_if (PW.pt (pw_or (pt_val (pe_callB (id := "isinstance") (r := rIsi K) call_isi (by rfl) M.isinstance (by decide +kernel) (pa_cons (pv 1) (pa_cons (ty_cls (n := "str") M.str (by rfl) (by decide +kernel)) pa_nil)))) (pw_or1 (pt_cmpR op_isN (pv 1) pe_non (nomark _))))) (pss_one (ps_ret (pe_and (pe_cmpR op_eq (pe_callB (id := "isinstance") (r := rIsi K) call_isi (by rfl) M.isinstance (by decide +kernel) (pa_cons (pv 0) (pa_cons (ty_cls (n := "str") M.str (by rfl) (by decide +kernel)) pa_nil))) (pe_callB (id := "isinstance") (r := rIsi K) call_isi (by rfl) M.isinstance (by decide +kernel) (pa_cons (pv 1) (pa_cons (ty_cls (n := "str") M.str (by rfl) (by decide +kernel)) pa_nil))) (nomark _)) (pe_one (pe_cmpR op_eq (pv 0) (pv 1) (nomark _)))))) pss_nil)
      (pss_one (ps_ret (pe_and (pe_callB (id := "isinstance") (r := rIsi K) call_isi (by rfl) M.isinstance (by decide +kernel) (pa_cons (pv 0) (pa_cons (ty_cls (n := "int") M.int (by rfl) (by decide +kernel)) pa_nil))) (pe_and (pe_cmpR op_eq (pe_callB (id := "isinstance") (r := rIsi K) call_isi (by rfl) M.isinstance (by decide +kernel) (pa_cons (pv 0) (pa_cons (ty_cls (n := "bool") M.bool (by rfl) (by decide +kernel)) pa_nil))) (pe_callB (id := "isinstance") (r := rIsi K) call_isi (by rfl) M.isinstance (by decide +kernel) (pa_cons (pv 1) (pa_cons (ty_cls (n := "bool") M.bool (by rfl) (by decide +kernel)) pa_nil))) (nomark _)) (pe_one (pe_cmpR op_eq (pv 0) (pv 1) (nomark _))))))))), ?_⟩
    refine ⟨_, rfl, by show 2 ≤ sizeLine; rw [sizeLine_eq]; decide, fun tp htp => ⟨v2, tp, [.ty "tuple", .ty "list"], _, _, _, rfl, upd_same, .cons (.ty _) (.cons (.ty _) .nil), tyx (h2.same (same_up htp)), kTL d, _, rfl, ?_⟩⟩
    have s0 : Same H (upd H tp (.tup [.ty "tuple", .ty "list"])) := same_up htp
    generalize upd H tp (.tup [.ty "tuple", .ty "list"]) = H0 at s0 ⊢
    have g1 := h1.same s0
    have g2 := h2.same s0
    cases ht : (isT d || isL d) with
    | true =>
      refine iteT ⟨_, rfl, _, _, _, _, _, rfl, .ty _, tyx g1, kit_ty (kT d), _, rfl, _, _, _, _, _, rfl, .ty _, tyx g2, kit_ty (kT d), rfl, _, rfl, ?_⟩
      rw [ne_self]
      refine iteF ⟨_, rfl, by show 2 ≤ sizeLine; rw [sizeLine_eq]; decide, fun tq htq => ⟨v1, tq, [.ty "tuple", .ty "list"], _, _, _, rfl, upd_same, .cons (.ty _) (.cons (.ty _) .nil), tyx (g1.same (same_up htq)), kTL d, _, rfl, ?_⟩⟩
      rw [ht]
      refine iteF ?_
      have s1 : Same H (upd H0 tq (.tup [.ty "tuple", .ty "list"])) := s0.trans (same_up htq)
      replace g1 := g1.same (same_up (o := .tup [.ty "tuple", .ty "list"]) htq)
      replace g2 := g2.same (same_up (o := .tup [.ty "tuple", .ty "list"]) htq)
      generalize upd H0 tq (.tup [.ty "tuple", .ty "list"]) = H1 at s1 g1 g2 ⊢
      cases g1 with
      | tup n1 e1 =>
        cases g2 with
        | tup n2 e2 =>
          rename_i p1 xs1 ds p2 xs2
          have l1 := dall_len e1
          have l2 := dall_len e2
          have ok2 : ds.length ≤ 4000 ∧ ∃ m, n = m + 1 ∧ ds.all (isK m) = true := by
            cases n with
            | zero => cases ok
            | succ m =>
              obtain ⟨k1, k2⟩ := Bool.and_eq_true_iff.mp (show (decide (ds.length ≤ 4000) && ds.all (isK m)) = true from ok)
              exact ⟨of_decide_eq_true k1, m, rfl, k2⟩
          obtain ⟨dl, m, rfl, okm⟩ := ok2
          refine ⟨_, rfl, p1, xs1, rfl, .inr n1.sq, _, rfl, p2, xs2, rfl, .inr n2.sq, rfl, _, rfl, ?_⟩
          rw [l1, l2, decide_eq_true rfl]
          refine iteT ⟨_, rfl, _, rfl, p1, p2, xs1, xs2, rfl, .inr ⟨n1.sq, n2.sq, fun D hD => ?_⟩⟩
          refine lc_zipT ds.length (by omega) (fun i H' => Same H1 H' ∧ H' D = some (.lst ((List.replicate i true).map V.bl))) ⟨same_up hD, upd_same⟩ (fun i H' e => ⟨(n1.same e.1).sq, (n2.same e.1).sq⟩) (fun i x y T H' hx hy e hT => ?_) (fun H2 e => yes_all e.1 e.2 fun H3 s3 => q H3 (s1.trans s3))
          obtain ⟨d1, k1, k2⟩ := dall_at' e1 hx
          obtain ⟨d2, k3, k4⟩ := dall_at' e2 hy
          rw [k1] at k3
          cases k3
          have sT : Same H1 (upd H' T (.tup [x, y])) := e.1.trans (same_up hT)
          refine ⟨T, _, rfl, .inl (.inl upd_same), rfl, _, _, rfl, _, _, rfl, rfl, rfl, _, rfl, _, rfl, x, y, d1, rfl, k2.same sT, k4.same sT, List.all_eq_true.mp okm d1 (List.mem_of_getElem? k1), fun H2 s2 => ?_⟩
          exact yes_step hD (List.getElem?_eq_some_iff.mp k1).1 dl (sT.trans s2) (s2 _ _ (by rw [upd_ne (ne_of_none e.2 hT)]; exact e.2))
      | lst n1 e1 =>
        cases g2 with
        | lst n2 e2 =>
          rename_i p1 xs1 ds p2 xs2
          have l1 := dall_len e1
          have l2 := dall_len e2
          have ok2 : ds.length ≤ 4000 ∧ ∃ m, n = m + 1 ∧ ds.all (isK m) = true := by
            cases n with
            | zero => cases ok
            | succ m =>
              obtain ⟨k1, k2⟩ := Bool.and_eq_true_iff.mp (show (decide (ds.length ≤ 4000) && ds.all (isK m)) = true from ok)
              exact ⟨of_decide_eq_true k1, m, rfl, k2⟩
          obtain ⟨dl, m, rfl, okm⟩ := ok2
          refine ⟨_, rfl, p1, xs1, rfl, .inl n1, _, rfl, p2, xs2, rfl, .inl n2, rfl, _, rfl, ?_⟩
          rw [l1, l2, decide_eq_true rfl]
          refine iteT ⟨_, rfl, _, rfl, p1, p2, xs1, xs2, rfl, .inl ⟨n1, n2, fun D hD => ?_⟩⟩
          refine lc_zip ds.length (by omega) (fun i H' => Same H1 H' ∧ H' D = some (.lst ((List.replicate i true).map V.bl))) ⟨same_up hD, upd_same⟩ (fun i H' e => ⟨Same.seq e.1 n1, Same.seq e.1 n2⟩) (fun i x y T H' hx hy e hT => ?_) (fun H2 e => yes_all e.1 e.2 fun H3 s3 => q H3 (s1.trans s3))
          obtain ⟨d1, k1, k2⟩ := dall_at' e1 hx
          obtain ⟨d2, k3, k4⟩ := dall_at' e2 hy
          rw [k1] at k3
          cases k3
          have sT : Same H1 (upd H' T (.tup [x, y])) := e.1.trans (same_up hT)
          refine ⟨T, _, rfl, .inl (.inl upd_same), rfl, _, _, rfl, _, _, rfl, rfl, rfl, _, rfl, _, rfl, x, y, d1, rfl, k2.same sT, k4.same sT, List.all_eq_true.mp okm d1 (List.mem_of_getElem? k1), fun H2 s2 => ?_⟩
          exact yes_step hD (List.getElem?_eq_some_iff.mp k1).1 dl (sT.trans s2) (s2 _ _ (by rw [upd_ne (ne_of_none e.2 hT)]; exact e.2))
      | _ => cases ht
    | false =>
      refine iteF ?_
      have two : (∃ i, d = .int i) ∨ (∃ x, d = .str x) ∨ d = .none := by
        cases d with
        | int i => exact .inl ⟨i, rfl⟩
        | str x => exact .inr (.inl ⟨x, rfl⟩)
        | none => exact .inr (.inr rfl)
        | tuple _ => cases ht
        | list _ => cases ht
        | _ => cases n <;> cases ok
      rcases two with ⟨i, rfl⟩ | ⟨x, rfl⟩ | rfl
      · cases dd_int g1
        cases dd_int g2
        refine ⟨_, rfl, _, _, _, _, _, rfl, .ty _, tyx g2, kit_ty (kS (.int i)), _, rfl, iteF ⟨_, rfl, rfl, _, rfl, iteF ?_⟩⟩
        refine ⟨_, rfl, _, _, _, _, _, rfl, .ty _, tyx g1, kit_ty (kI (.int i)), _, rfl, iteT ⟨_, rfl, _, _, _, _, _, rfl, .ty _, tyx g1, kit_ty (kB (.int i)), _, rfl, _, _, _, _, _, rfl, .ty _, tyx g2, kit_ty (kB (.int i)), rfl, _, rfl, ?_⟩⟩
        refine iteT ⟨_, rfl, _, rfl, rfl, ?_⟩
        rw [show decide (V.int i = V.int i) = true from decide_eq_true rfl]
        exact q _ s0
      · cases dd_str g1
        cases dd_str g2
        refine ⟨_, rfl, _, _, _, _, _, rfl, .ty _, tyx g2, kit_ty (kS (.str x)), _, rfl, iteT (iteT ?_)⟩
        refine ⟨_, rfl, _, _, _, _, _, rfl, .ty _, tyx g1, kit_ty (kS (.str x)), _, rfl, _, _, _, _, _, rfl, .ty _, tyx g2, kit_ty (kS (.str x)), rfl, _, rfl, ?_⟩
        refine iteT ⟨_, rfl, _, rfl, rfl, ?_⟩
        rw [show decide (V.str x = V.str x) = true from decide_eq_true rfl]
        exact q _ s0
      · cases g1
        cases g2
        have g1 : Dd K H0 .non .none := .non
        refine ⟨_, rfl, _, _, _, _, _, rfl, .ty _, tyx g1, kit_ty (kS .none), _, rfl, iteF ⟨_, rfl, rfl, _, rfl, iteT ?_⟩⟩
        refine ⟨_, rfl, _, _, _, _, _, rfl, .ty _, tyx g1, kit_ty (kS .none), _, rfl, _, _, _, _, _, rfl, .ty _, tyx g1, kit_ty (kS .none), rfl, _, rfl, ?_⟩
        refine iteT ⟨_, rfl, _, rfl, rfl, ?_⟩
        rw [show decide (V.non = V.non) = true from decide_eq_true rfl]
        exact q _ s0
end
end Sm
/-! enumerate over a tuple. -/
namespace En
open PySem PySem.AutoSeq1
section
variable {P : Program} {w : World} {A : Around} {Er : Value → Shared → Prop} {s : Shared}
/-- one turn of an enumeration, whatever stands within: `In` is what the inner iterator keeps -/
theorem turn_in {e j : Addr} {n : Nat} {y z : Value} {Z : Value → Shared → Prop} {In : Heap → Prop} (k0 : IsEnum s.heap e j n z) (apart : e ≠ j)
    (step : ∀ (Y : Value → Shared → Prop), (∀ g, In g → Heap.SameBut j s.heap g → Y y { s with heap := g }) → wpAny (model P w) A (Builtin.SmallTypes.nextOf (.ref j)) Y Er s)
    (stay : ∀ g g' : Heap, In g → (∀ o, g.get? j = some o → g'.get? j = some o) → In g')
    (fin : ∀ g, IsEnumOut g e j ((n : Int) + 1) y s.heap.objs.size → In g → g.get? s.heap.objs.size = some { cls := .type "tuple", data := .seq #[.int n s.toks, y] } → g.objs.size = s.heap.objs.size + 1 →
      (∀ b o, b ≠ e → b ≠ j → s.heap.get? b = some o → g.get? b = some o) → Z (.ref s.heap.objs.size) { s with heap := g, toks := s.toks + 1 }) :
    wpAny (model P w) A (Builtin.«enumerate.__next__» ⟨[.ref e], []⟩) (fun f s' => ∃ v, f = .done (.ret v) ∧ Z v s') Er s := by
  obtain ⟨a0, a1, a2, a3, a4⟩ := s
  show wpAny _ _ (field (.ref e) 2 >>= _) _ _ _
  refine wpAny_bind (wpAny_field k0 rfl (x := .ref j) rfl (wpAny_bind (step _ fun g1 i1 m1 => ?_)))
  have m1' : Heap.SameBut j a0 g1 := m1
  have k1 : IsEnum g1 e j n z := (m1'.2 e apart).trans k0
  show wpAny _ _ (field (.ref e) 3 >>= _) _ _ ⟨g1, a1, a2, a3, a4⟩
  refine wpAny_bind (wpAny_field k1 rfl (x := rawInt n) rfl ?_)
  show wpAny _ _ (field (.ref e) 4 >>= _) _ _ ⟨g1, a1, a2, a3, a4⟩
  refine wpAny_bind (wpAny_field k1 rfl (x := .none) rfl ?_)
  show wpAny _ _ (mkInt n >>= _) _ _ ⟨g1, a1, a2, a3, a4⟩
  refine wpAny_bind (wpAny_mkInt ?_)
  show wpAny _ _ (setField (.ref e) 3 (rawInt ((n : Int) + 1)) >>= _) _ _ ⟨g1, a1, a2, a3 + 1, a4⟩
  refine wpAny_bind (wpAny_setField_rec k1 (by simp) fun g2 k2 m2 => ?_)
  have m2' : Heap.SameBut e g1 g2 := m2
  have k2' : IsEnum g2 e j ((n : Int) + 1) z := k2
  show wpAny _ _ (setField (.ref e) 4 .none >>= _) _ _ ⟨g2, a1, a2, a3 + 1, a4⟩
  refine wpAny_bind (wpAny_setField_rec k2' (by simp) fun g3 k3 m3 => ?_)
  have m3' : Heap.SameBut e g2 g3 := m3
  have k3' : IsEnum g3 e j ((n : Int) + 1) z := k3
  show wpAny _ _ (newTuple [.int n a3, y] >>= _) _ _ ⟨g3, a1, a2, a3 + 1, a4⟩
  refine wpAny_bind (wpAny_newTuple ?_)
  have k4 : IsEnum (g3.push { cls := .type "tuple", data := .seq #[.int n a3, y] }) e j ((n : Int) + 1) z := Heap.get?_push_of_some _ k3'
  have big : g3.objs.size = a0.objs.size := by rw [m3'.1, m2'.1, m1'.1]
  have low : e < a0.objs.size := Heap.lt_size k0
  have i3 : In g3 := stay _ _ (stay _ _ i1 fun o q => (m2'.2 j apart.symm).trans q) fun o q => (m3'.2 j apart.symm).trans q
  have i4 : In (g3.push { cls := .type "tuple", data := .seq #[.int n a3, y] }) := stay _ _ i3 fun o q => Heap.get?_push_of_some _ q
  have p4 : (g3.push { cls := .type "tuple", data := .seq #[.int n a3, y] }).get? a0.objs.size = some { cls := .type "tuple", data := .seq #[.int n a3, y] } := by
    rw [← big]
    exact Heap.get?_push_size _ rfl
  have z4 : (g3.push { cls := .type "tuple", data := .seq #[.int n a3, y] }).objs.size = a0.objs.size + 1 := by rw [Heap.size_push, big]
  have keep4 : ∀ b o, b ≠ e → b ≠ j → a0.get? b = some o → (g3.push { cls := .type "tuple", data := .seq #[.int n a3, y] }).get? b = some o := fun b o n1 n2 q =>
    Heap.get?_push_of_some _ (m3'.extBut b o n1 (m2'.extBut b o n1 (m1'.extBut b o n2 q)))
  show wpAny _ _ (Builtin.SmallTypes.ownedTupleIsFree (.ref e) >>= _) _ _ ⟨g3.push { cls := .type "tuple", data := .seq #[.int n a3, y] }, a1, a2, a3 + 1, a4⟩
  rw [big]
  generalize g3.push { cls := .type "tuple", data := .seq #[.int n a3, y] } = g4 at k4 i4 p4 z4 keep4 ⊢
  refine wpAny_bind ?_
  unfold Builtin.SmallTypes.ownedTupleIsFree
  refine wpAny_bind (wpAny_field k4 rfl (x := .none) rfl (wpAny_pure ?_))
  simp only [if_true]
  refine wpAny_bind (wpAny_rule (wpAny_bind (wpAny_field k4 rfl (x := z) rfl (wpAny_bind (wpAny_setField_rec k4 (by simp) fun g5 k5 m5 => ?_)))))
  have m5' : Heap.SameBut e g4 g5 := m5
  have k5' : IsEnum g5 e j ((n : Int) + 1) y := k5
  show wpAny _ _ (Builtin.SmallTypes.ownedTupleHandOut (.ref e) (.ref a0.objs.size) >>= _) _ _ ⟨g5, a1, a2, a3 + 1, a4⟩
  refine wpAny_bind ?_
  unfold Builtin.SmallTypes.ownedTupleHandOut
  refine wpAny_bind (wpAny_setField_rec k5' (by simp) fun g6 k6 m6 => ?_)
  have m6' : Heap.SameBut e g5 g6 := m6
  have k6' : IsEnumOut g6 e j ((n : Int) + 1) y a0.objs.size := k6
  refine wpAny_setField_rec k6' (by simp) fun g7 k7 m7 => ?_
  have m7' : Heap.SameBut e g6 g7 := m7
  have k7' : IsEnumOut g7 e j ((n : Int) + 1) y a0.objs.size := k7
  have up : ∀ b o, b ≠ e → g4.get? b = some o → g7.get? b = some o := fun b o n1 q => m7'.extBut b o n1 (m6'.extBut b o n1 (m5'.extBut b o n1 q))
  refine wpAny_bind (wpAny_letGo (wpAny_pure ⟨_, rfl, fin g7 k7' (stay _ _ i4 fun o q => up j o apart.symm q) (up _ _ (Nat.ne_of_gt low) p4) ?_ fun b o n1 n2 q => up b o n1 (keep4 b o n1 n2 q)⟩))
  rw [m7'.1, m6'.1, m5'.1, z4]
theorem item_t {e j t : Addr} {n : Nat} {us : Array Value} {y z : Value} {Z : Option Value → Shared → Prop} (k0 : IsEnum s.heap e j n z) (hj : s.heap.IsTupleIter j t n) (ht : s.heap.IsTuple t us) (hy : us[n]? = some y) (apart : e ≠ j)
    (fin : ∀ g, IsEnumOut g e j ((n : Int) + 1) y s.heap.objs.size → g.IsTupleIter j t (n + 1) → g.get? s.heap.objs.size = some { cls := .type "tuple", data := .seq #[.int n s.toks, y] } → g.objs.size = s.heap.objs.size + 1 →
      (∀ b o, b ≠ e → b ≠ j → s.heap.get? b = some o → g.get? b = some o) → Z (some (.ref s.heap.objs.size)) { s with heap := g, toks := s.toks + 1 }) : wpAny (model P w) A (pyNext (.ref e)) Z Er s := by
  have kind : s.TypeIs (.ref e) "enumerate" := ⟨_, k0, rfl⟩
  unfold pyNext
  refine wpAny_bind (wpAny_attempt (wpAny_callSpecial?_slot (name := Str.ofString "__next__") kind F.slot_enumerate_next (wpAny_call_entry F.slot_enumerate_next kind F.entry_enumerate_next ?_ (F.args_enumerate_next_1 _))))
  exact turn_in k0 apart (In := fun g => g.IsTupleIter j t (n + 1)) (fun Y q => RZ.nextOf_tuple_item hj ht hy fun g i m => q g i m) (fun g g' i k => i.at fun o q => k o q) fun g a b c d k => wpAny_pure (fin g a b c d k)
theorem end_t {e j t : Addr} {n : Nat} {us : Array Value} {z : Value} {Z : Option Value → Shared → Prop} (hh : A.handled = none) (k0 : IsEnum s.heap e j n z) (hj : s.heap.IsTupleIter j t n) (ht : s.heap.IsTuple t us) (hy : us[n]? = none)
    (fin : ∀ g, Heap.ExtBut j s.heap g → Z none { s with heap := g }) : wpAny (model P w) A (pyNext (.ref e)) Z Er s := by
  have kind : s.TypeIs (.ref e) "enumerate" := ⟨_, k0, rfl⟩
  unfold pyNext
  refine wpAny_bind (wpAny_attempt (wpAny_callSpecial?_slot (name := Str.ofString "__next__") kind F.slot_enumerate_next (wpAny_call_entry F.slot_enumerate_next kind F.entry_enumerate_next ?_ (F.args_enumerate_next_1 _))))
  show wpAny _ _ (field (.ref e) 2 >>= _) _ _ _
  refine wpAny_bind (wpAny_field k0 rfl (x := .ref j) rfl (wpAny_bind (RZ.nextOf_tuple_end hh hj ht hy fun g x m hx => ?_)))
  obtain ⟨o, ho, hc⟩ := hx
  exact wpAny_bind (wpAny_isInstance (T := "StopIteration") (b := true) ⟨o, ho, hc⟩ isSubtype_stop (wpAny_pure (fin _ m)))
end
theorem new_t (t : Addr) (us : Array Value) (m : Nat) (f : Option Addr) (sl : Array (Option Value)) :
    Meets (Builtin.«enumerate.__new__» ⟨[.type "enumerate", .ref t], []⟩) (fun _ R s => s.heap.get? t = some { cls := .type "tuple", dict := f, data := .seq us m, slots := sl } ∧
      R (.ok (.ret (.ref (s.heap.push { cls := .type "tuple_iterator", data := .fields #[.ref t, .int 0 0] }).objs.size)))
        { s with heap := (s.heap.push { cls := .type "tuple_iterator", data := .fields #[.ref t, .int 0 0] }).push { cls := .type "enumerate", data := .fields #[.none, .bool false, .ref s.heap.objs.size, rawInt 0, .none, .none] } }) :=
  .of_wp fun P w A R s hyp => by
    obtain ⟨a0, a1, a2, a3, a4⟩ := s
    obtain ⟨k, kr⟩ := hyp
    have sub := sub_enumerate
    have kt : Heap.IsTuple (Shared.heap ⟨a0, a1, a2, a3, a4⟩) t us := ⟨_, k, rfl, m, rfl⟩
    wp_walk using wpAny_loadPart' k
    refine wpAny_stack_any fun stk => wpAny_pure ?_
    split
    · rename_i c _ _ _ _ _
      cases (c == Value.type "enumerate") <;> (wp_walk using wpAny_loadPart' k, wpAny_pyIter_tuple kt; exact ⟨_, rfl, kr⟩)
    · wp_walk using wpAny_loadPart' k, wpAny_pyIter_tuple kt
      exact ⟨_, rfl, kr⟩
section
variable {P : Program} {w : World} {A : Around} {Er : Value → Shared → Prop} {s : Shared}
theorem call_t {t : Addr} {us : Array Value} {Z : Value → Shared → Prop} (ht : s.heap.IsTuple t us)
    (fin : ∀ g, IsEnum g (s.heap.objs.size + 1) s.heap.objs.size 0 .none → g.IsTupleIter s.heap.objs.size t 0 → g.objs.size = s.heap.objs.size + 2 → (∀ b o, s.heap.get? b = some o → g.get? b = some o) → Z (.ref (s.heap.objs.size + 1)) { s with heap := g }) :
    wpAny (model P w) A (call (.type "enumerate") [.ref t]) Z Er s := by
  obtain ⟨⟨c, f, d, sl⟩, k, hc, m, hd⟩ := ht
  simp only at hc hd
  subst hc hd
  refine callType_new F.called_enumerate (by decide) (F.typeCall_enumerate_1 _) (F.newCall_enumerate_1 _) (fun obj => F.args_object_init_2 obj _) F.entry_enumerate_new (new_t t us m f sl) ⟨k, ?_⟩
  have one : (s.heap.push { cls := .type "tuple_iterator", data := .fields #[.ref t, .int 0 0] }).objs.size = s.heap.objs.size + 1 := Heap.size_push ..
  show _ ∧ _
  rw [one]
  have ke : IsEnum ((s.heap.push { cls := .type "tuple_iterator", data := .fields #[.ref t, .int 0 0] }).push { cls := .type "enumerate", data := .fields #[.none, .bool false, .ref s.heap.objs.size, rawInt 0, .none, .none] }) (s.heap.objs.size + 1) s.heap.objs.size 0 .none := by
    rw [← one]
    exact Heap.get?_push_size _ rfl
  exact ⟨⟨_, ke, rfl⟩, fin _ ke ⟨_, Heap.get?_push_of_some _ (Heap.get?_push_size _ rfl), rfl, rfl⟩ (by rw [Heap.size_push, one]) fun b o q => Heap.get?_push_of_some _ (Heap.get?_push_of_some _ q)⟩
end
end En
namespace L2
open PySem PySem.Spec PyProof.Rows
/-- the tuple at a as it stands at each turn, each item in a new pair with its place -/
def IteT (K : PySem.W.Frag) (a : Addr) : It :=
  ⟨fun i H => ∃ (xs : List V) (x : V), SqT K H a xs ∧ xs[i]? = some x, fun i H v H' => ∃ T x, v = .ref T ∧ H T = none ∧ H' = upd H T (.tup [.int (i : Nat), x]) ∧ ∀ xs, SqT K H a xs → xs[i]? = some x, fun i H => ∃ xs : List V, SqT K H a xs ∧ xs.length ≤ i⟩
theorem turn_enumT {P : Program} {w : World} {K : PySem.W.Frag} {elts : List Expr} {kk : Nat} {tpos : Pos} (a e j : Addr) :
    Turn P w K (.Tuple elts kk tpos) (IteT K a) [e, j] e (fun i h => (∃ z, IsEnum h e j ((i : Nat) : Int) z) ∧ h.IsTupleIter j a i ∧ e ≠ j) where
  mem := by simp
  obj := fun i h st b hb => by
    obtain ⟨⟨z, ke⟩, ⟨o, ho, hc, hd⟩, _⟩ := st
    rcases (show b = e ∨ b = j by simpa using hb) with rfl | rfl
    · exact ⟨_, ke, fun v q => nomatch q⟩
    · exact ⟨o, ho, fun v q => by rw [hd] at q; cases q⟩
  keep := fun i h h' st k => by
    obtain ⟨⟨z, ke⟩, hj, ne⟩ := st
    exact ⟨⟨z, k e (by simp) _ ke⟩, hj.at fun o q => k j (by simp) o q, ne⟩
  item := by
    intro X hP hw hK hc i pins s σ H E I hf st hg
    subst hP hw hK
    obtain ⟨⟨z, ke⟩, hj, ne⟩ := st
    obtain ⟨xs, x, hq, hx⟩ := hg
    obtain ⟨its, rv, pl, _⟩ := I.tuple hq
    obtain ⟨u, hu, ru⟩ := rv.get hx
    have le : e < s.heap.objs.size := Heap.lt_size ke
    have lj : j < s.heap.objs.size := by
      obtain ⟨_, q, _⟩ := hj
      exact Heap.lt_size q
    have low : ∀ b ∈ [e, j], b < s.heap.objs.size := fun b hb => by
      rcases (show b = e ∨ b = j by simpa using hb) with rfl | rfl
      · exact le
      · exact lj
    refine En.item_t ke hj pl (y := u) (by simpa using hu) ne fun h1 ho hj1 hT hsz hk => ?_
    refine ⟨_, rfl, wpAny_letOwnedTupleGo_enum (s := { s with heap := h1, toks := s.toks + 1 }) ho fun h2 ke2 sb => ?_⟩
    have hT2 : h2.get? s.heap.objs.size = some { cls := .type "tuple", data := .seq #[.int i s.toks, u] } := (sb.2 _ (Nat.ne_of_gt le)).trans hT
    have fresh : ObjOk X.prog X.w (upd H s.heap.objs.size (.tup [.int (i : Nat), x])) h2 s.heap.objs.size (.tup [.int (i : Nat), x]) := ⟨by show 2 ≤ sizeLine; decide, [.int i s.toks, u], .cons ⟨_, rfl⟩ (.cons ru .nil), ⟨_, hT2, rfl, _, rfl⟩⟩
    have I1 : Inv X pins σ (upd H s.heap.objs.size (.tup [.int (i : Nat), x])) { s with heap := h2, toks := s.toks + 1 } :=
      I.turnedNew (ch := [e, j]) (fun b ob hb q => (sb.2 b (fun y => hb (by simp [y]))).trans (hk b ob (fun y => hb (by simp [y])) (fun y => hb (by simp [y])) q)) hf (Nat.le_refl _) fresh
    refine ⟨.ref s.heap.objs.size, _, I1, rfl, ⟨_, x, rfl, I.hok.fresh (Nat.le_refl _), rfl, fun ys hy => by rw [I.tuple_inj hy hq]; exact hx⟩, ⟨⟨u, ?_⟩, hj1.at fun o q => (sb.2 j ne.symm).trans q, ne⟩, fun b hb => ?_⟩
    · rw [show ((i + 1 : Nat) : Int) = (i : Int) + 1 by omega]
      exact ke2
    · rw [upd_ne (Nat.ne_of_lt (low b hb))]
      exact (hf b hb).1
  done := by
    intro X hP hw hK hc i pins s σ H E I hf st hg
    subst hP hw hK
    obtain ⟨⟨z, ke⟩, hj, ne⟩ := st
    obtain ⟨xs, hq, hx⟩ := hg
    obtain ⟨its, rv, pl, _⟩ := I.tuple hq
    have hl := rv.length
    obtain ⟨f0, f1, f2, f3, f4, f5⟩ := hf j (by simp)
    exact En.end_t (I.ok.hd hc) ke hj pl (by simp; omega) fun h1 eb => ⟨rfl, I.turned (t' := s.toks) (fun b o hb q => eb b o hb q) f0 f1 f3 f4 f5⟩
  self := fun A i s Q E st h => by
    obtain ⟨⟨_, ke⟩, _⟩ := st
    exact wpAny_pyIter_enum ke h
def iEnumT (K : PySem.W.Frag) (ta : TA) : TI := fun σ H R => ta σ H fun vs H1 => ∃ a xs, vs = [.ref a] ∧ SqT K H1 a xs ∧ R (IteT K a) H1
theorem pi_enumT {X : Cx} {e : Expr} {ta : TA} {p pos tpos : Pos} {elts : List Expr} {kk : Nat} (hg : Gl X "enumerate") (hm : X.mg "enumerate" = none) (ha : PA X [e] ta) (hs : starEach [e] X.env = [(false, eval e X.env)] := by rfl) :
    PI X (.Tuple elts kk tpos) (.Call (.Name "enumerate" p) [e] [] pos) (iEnumT X.K ta) := by
  refine ⟨fun pins s σ H R I h => ?_⟩
  refine Call_ (ld_blt I hg hm boot_enumerate (PyProof.Rows.callWith_type1 (thn (ha.run pos pins s σ H _ I h) fun us s1 ⟨vs, H1, I1, r1, a, xs, ex, hq, q⟩ => ?_) hs rfl))
  subst ex
  cases r1 with
  | cons r rr =>
    cases rr
    cases r
    obtain ⟨its, rv, pl, _⟩ := I1.tuple hq
    refine En.call_t pl fun g ke hj sz hk => wpAny_pyIter_enum ke ?_
    have I2 : Inv X pins σ H1 { s1 with heap := g } := I1.kept (t' := s1.toks) hk
    refine ⟨s1.heap.objs.size + 1, [s1.heap.objs.size + 1, s1.heap.objs.size], _, _, H1, rfl, I2, turn_enumT a (s1.heap.objs.size + 1) s1.heap.objs.size, ⟨⟨.none, ke⟩, hj, Nat.succ_ne_self _⟩, fun b hb => ?_, q⟩
    have le : s1.heap.objs.size ≤ b := by
      rcases (show b = s1.heap.objs.size + 1 ∨ b = s1.heap.objs.size by simpa using hb) with rfl | rfl
      · exact Nat.le_add_right _ _
      · exact Nat.le_refl _
    exact I1.fpOk le (I1.hok.fresh le)
/-- a for loop over enumerate(tuple) -/
theorem for_enumT {K : PySem.W.Frag} {a : Addr} {xs : List V} {g : TG} {tb : TS} {D : Ends} {σ : St} {H : Hp} (Pv : Nat → St → Hp → Prop) (start : Pv 0 σ H) (tup : ∀ i σ H, Pv i σ H → SqT K H a xs)
    (turn : ∀ i x T σ H, xs[i]? = some x → Pv i σ H → H T = none → g (.ref T) σ (upd H T (.tup [.int (i : Nat), x])) fun σ2 H2 => tb { D with nx := Pv (i + 1), ct := Pv (i + 1), bk := D.nx } σ2 H2) (stop : ∀ σ H, Pv xs.length σ H → D.nx σ H) :
    ∃ W : Nat → Nat → St → Hp → Prop, (∃ m, W 0 m σ H) ∧ ∀ i m σ H, W i m σ H →
      ((IteT K a).stop i H ∧ D.nx σ H) ∨ ((IteT K a).go i H ∧ ∃ N : St → Hp → Prop, (∀ σ' H', N σ' H' → ∃ m', m' < m ∧ W (i + 1) m' σ' H') ∧ ∀ v H', (IteT K a).yld i H v H' → g v σ H' fun σ2 H2 => tb { D with nx := N, ct := N, bk := D.nx } σ2 H2) := by
  refine ⟨fun i m σ H => m = xs.length - i ∧ i ≤ xs.length ∧ Pv i σ H, ⟨xs.length, (Nat.sub_zero _).symm, Nat.zero_le _, start⟩, ?_⟩
  rintro i m σ H ⟨rfl, hi, p⟩
  have q := tup i σ H p
  rcases Nat.lt_or_ge i xs.length with hlt | hge
  · have hx : xs[i]? = some xs[i] := List.getElem?_eq_getElem hlt
    refine .inr ⟨⟨xs, _, q, hx⟩, Pv (i + 1), fun σ' H' p' => ⟨xs.length - (i + 1), by omega, rfl, hlt, p'⟩, fun v H' y => ?_⟩
    obtain ⟨T, x, rfl, hT, rfl, z⟩ := y
    exact turn i x T σ H (z _ q) p hT
  · obtain rfl : i = xs.length := by omega
    exact .inl ⟨⟨xs, q, Nat.le_refl _⟩, stop σ H p⟩
end L2
/-! part_text. -/
namespace Sm
open PySem PySem.Spec PyProof.Rows L2 Vd RZ
/-- numbers that can be shown -/
def Small (ns : List Int) : Prop := ∀ n ∈ ns, n.natAbs < 2 ^ 200
def KidsOk (p : Int) (cs : List Tr) : Prop := ∀ t ∈ cs, (trNum p t).natAbs < 2 ^ 200 ∧ ((trMany t : Nat) : Int).natAbs < 2 ^ 200
theorem inter_step (p : Int) : ∀ (cs : List Tr) (ns : List Int) (i : Nat) (t : Tr), cs[i]? = some t → inter (trPairs p (cs.take (i + 1))) ns = inter (trPairs p (cs.take i)) ns ++ [trNum p t, (trMany t : Int)] ++ (ns.drop i).take 1
  | [], ns, i, t, h => by simp at h
  | c :: r, ns, 0, t, h => by
    cases h
    simp [trPairs, inter]
  | c :: r, ns, i + 1, t, h => by
    have ih := inter_step p r (ns.drop 1) i t (by simpa using h)
    rw [List.take_succ_cons, List.take_succ_cons]
    unfold trPairs inter
    rw [ih, List.drop_drop, Nat.add_comm 1 i]
    simp
theorem inter_len (p : Int) : ∀ (cs : List Tr) (ns : List Int), (inter (trPairs p cs) ns).length ≤ 3 * cs.length
  | [], ns => by simp [trPairs, inter]
  | c :: r, ns => by
    have ih := inter_len p r (ns.drop 1)
    unfold trPairs inter
    simp only [List.length_cons, List.length_append, List.length_take]
    omega
theorem inter_small (p : Int) : ∀ (cs : List Tr) (ns : List Int), KidsOk p cs → Small ns → Small (inter (trPairs p cs) ns)
  | [], ns, _, _ => by
    intro n hn
    simp [trPairs, inter] at hn
  | c :: r, ns, hk, hs => by
    have ih := inter_small p r (ns.drop 1) (fun t ht => hk t (List.mem_cons_of_mem _ ht)) (fun n hn => hs n (List.mem_of_mem_drop hn))
    have h0 := hk c List.mem_cons_self
    unfold trPairs inter
    intro n hn
    simp only [List.mem_cons, List.mem_append] at hn
    rcases hn with rfl | rfl | hn | hn
    · exact h0.1
    · exact h0.2
    · exact hs n (List.mem_of_mem_take hn)
    · exact ih n hn
section
variable {P : Program} {w : World} {K : PySem.W.Frag} {mg : Str → Option Value} {base : Heap}
/-- the text of a Part, made or in the making -/
def spPText (CP : Addr) (p : Int) (K : PySem.W.Frag) : Sp := fun vs H Q _ => ∃ (a dx c n : Addr) (fs : List (Str × V)) (ks : List Addr) (cs : List Tr) (ns : List Int), vs = [.ref a] ∧ H a = some (.ins CP dx fs) ∧ Cls K CP ∧ NoAttr K CP "children" ∧ NoAttr K CP "numbers" ∧ NoAttr K CP "number" ∧ NoAttr K CP "many" ∧
  fs.lookup ("children" : Str) = some (V.ref c) ∧ fs.lookup ("numbers" : Str) = some (V.ref n) ∧ TupN H c (ks.map V.ref) ∧ PartsAt CP p K H ks cs ∧ TupN H n (ns.map V.int) ∧ Small ns ∧ KidsOk p cs ∧ ns.length ≤ 4000 ∧ cs.length ≤ 4000 ∧
  ∀ H', Same H H' → Q (.str (nText (if cs.isEmpty = true then 1 :: ns else 2 :: inter (trPairs p cs) ns))) H'
theorem scPText : FnScope ["part", "told", "at", "child"] ["part"] (defScope sPText) := ⟨rfl, rfl, rfl, by decide +kernel, rfl, by decide +kernel, by decide +kernel⟩
theorem ok_ptext {CP : Addr} {p : Int} {f : Addr} {fd : FuncData} (F : FnP K "part_text" sPText f fd) (M2 : Nm2 mg) (hU : CutK K) (DNT : Df P w K mg base "numbers_text" 1 ["numbers"] (spNText K)) : FnOk P w K mg base CX0 2 f fd ["part"] (spPText CP p K) := by
  refine F.ok scPText (fun vs H Q E h => ?_) (fun cdv A outer s H vs Q E hr h => ?_)
  · obtain ⟨a, dx, c, n, fs, ks, cs, ns, rfl, _⟩ := h
    rfl
  obtain ⟨a, dx, c, n, fs, ks, cs, ns, rfl, ha, hC, nC, nN, nu, nM, lC, lN, hc, hk, hn, hs, hko, zn, zc, q⟩ := h
  refine ⟨_, PSs.nox (pss_cons (ps_if (pt_not (pt_truth (pe_fld (pv 0) (by rfl)) (fun _ => rfl))) (pss_one (ps_ret (pe_df DNT hr (by decide) (pa_cons (pe_lst (pa_cons (pe_glob (v := .int 1) (by rfl) (M2.LEAF).choose_spec ⟨_, rfl⟩) (StX.pa_star (pe_fld (pv 0) (by rfl)) pa_nil))) pa_nil)))) pss_nil)
      (pss_cons (ps_set (i := 1) scPText.nd rfl (Or.inl rfl) (pe_lst (pa_cons (pe_glob (v := .int 2) (by rfl) (M2.NODE).choose_spec ⟨_, rfl⟩) pa_nil)))
      (pss_cons (ps_for PassesOwn.never rfl (pi_enumT (by rfl) M2.enumerate (pa_cons (pe_fld (pv 0) (by rfl)) pa_nil)) (pg_tup rfl (pgs_cons (pg_name (i := 2) scPText.nd rfl (Or.inl rfl)) (pgs_cons (pg_name (i := 3) scPText.nd rfl (Or.inl rfl)) pgs_nil))) (pss_one (ps_expr (pe_bm PySem.F.plainAttrs_list PySem.F.slot_list_extend PySem.F.type_list_extend mt_extend (pv 1) (pa_cons (pe_lst (pa_cons (pe_fld (pv 3) (by rfl)) (pa_cons (pe_fld (pv 3) (by rfl)) (StX.pa_star (pe_slice (r := rSlA K) sl_tupA (pe_fld (pv 0) (by rfl)) (po_some (pv 2)) (po_some (pe_op op_add (pv 2) pe_int))) pa_nil)))) pa_nil)))))
      (pss_one (ps_ret (pe_df DNT hr (by decide) (pa_cons (pv 1) pa_nil))))))), ?_⟩
  have lk := parts_len hk
  refine ⟨_, rfl, a, CP, dx, fs, .ref c, rfl, ha, hC, nC, lC, _, .inr (.inl ⟨_, hc.sq, rfl⟩), ?_⟩
  have ge : (ks.map V.ref).isEmpty = cs.isEmpty := by
    cases cs with
    | nil =>
      rw [List.length_eq_zero_iff.mp lk]
      rfl
    | cons t r =>
      cases ks with
      | nil => cases lk
      | cons _ _ => rfl
  rw [ge]
  cases hce : cs.isEmpty with
  | true =>
    rw [hce, if_pos rfl] at q
    exact iteT ⟨_, rfl, a, CP, dx, fs, .ref n, rfl, ha, hC, nN, lN, n, _, rfl, .inl hn.sq, by
      refine ⟨?_, fun l nl => ⟨l, 1 :: ns, ?_, SqL.of ?_, ?_, ?_, fun H' s' => q H' (Same.trans (same_up nl) s')⟩⟩
      · simp [sizeLine_eq]
        omega
      · rfl
      · rw [upd_same]
        simp
      · simp
        omega
      · intro m hm
        rcases List.mem_cons.mp hm with rfl | hm
        · decide
        · exact hs _ hm⟩
  | false =>
    rw [hce, if_neg Bool.false_ne_true] at q
    refine iteF ?_
    refine ⟨by rw [sizeLine_eq]; decide, fun L nL => ⟨_, rfl, a, CP, dx, fs, .ref c, rfl, same_up nL _ _ ha, hC, nC, lC, c, ks.map V.ref, rfl, (hc.same (same_up nL)).sq, ?_⟩⟩
    refine for_enumT (xs := ks.map V.ref) (fun i σ H' => Same H H' ∧ (∃ x2 x3, σ = [some (.ref a), some (.ref L), x2, x3]) ∧ H' L = some (.lst ((2 :: inter (trPairs p (cs.take i)) ns).map V.int))) ⟨same_up nL, ⟨none, none, rfl⟩, ?_⟩ (fun i σ H' z => (hc.same z.1).sq) (fun i x T σ H' hx z nT => ?_) (fun σ H' z => ?_)
    · simp [trPairs, inter, upd_same]
    · obtain ⟨s1, ⟨x2, x3, rfl⟩, hL⟩ := z
      rw [List.getElem?_map] at hx
      obtain ⟨k, hkx, rfl⟩ := Option.map_eq_some_iff.mp hx
      obtain ⟨t, ht, hP⟩ := parts_at hk hkx
      have s2 : Same H' (upd H' T (.tup [.int (i : Nat), .ref k])) := same_up nT
      have il : i < cs.length := (List.getElem?_eq_some_iff.mp ht).1
      have hP2 := hP.kt (kt_same (Same.trans s1 s2))
      obtain ⟨C', dx', fs', hk1, hC', ln', lm'⟩ := part_nm hP2
      obtain ⟨hC2, nu2, nM2⟩ : Cls K C' ∧ NoAttr K C' "number" ∧ NoAttr K C' "many" := by
        rcases hC' with rfl | rfl
        · exact ⟨hC, nu, nM⟩
        · exact ⟨hU.c, hU.n, hU.m⟩
      refine ⟨T, _, rfl, .inl (.inl upd_same), rfl, .int i, [.ref k], rfl, .ref k, [], rfl, rfl, .ref L, rfl, .inl ⟨rfl, _, SqL.of (s2 _ _ hL)⟩, _, rfl, k, C', dx', _, .int (trNum p t), rfl, hk1, hC2, nu2, ln', _, rfl, k, C', dx', _, .int (trMany t : Int), rfl, hk1, hC2, nM2, lm', ?_⟩
      have hG := Same.trans s1 s2
      have key : ∀ (H2 : Hp) (xs : List V), Same (upd H' T (.tup [.int (i : Nat), .ref k])) H2 → xs = ((ns.drop i).take 1).map V.int → (V.int (trNum p t) :: V.int (trMany t : Int) :: (xs ++ [])).length ≤ sizeLine ∧ ∀ p1, H2 p1 = none → ∃ (l b : Addr) (ys zs : List V), V.ref L = .ref l ∧ [V.ref p1] = [V.ref b] ∧ upd H2 p1 (.lst (V.int (trNum p t) :: V.int (trMany t : Int) :: (xs ++ []))) l = some (.lst ys) ∧ upd H2 p1 (.lst (V.int (trNum p t) :: V.int (trMany t : Int) :: (xs ++ []))) b = some (.lst zs) ∧ ys.length + zs.length ≤ sizeLine ∧
          Same H (upd (upd H2 p1 (.lst (V.int (trNum p t) :: V.int (trMany t : Int) :: (xs ++ [])))) l (.lst (ys ++ zs))) ∧ (∃ z2 z3, (([some (V.ref a), some (V.ref L), x2, x3].set 2 (some (V.int ↑i))).set 3 (some (V.ref k))) = [some (.ref a), some (.ref L), z2, z3]) ∧ upd (upd H2 p1 (.lst (V.int (trNum p t) :: V.int (trMany t : Int) :: (xs ++ [])))) l (.lst (ys ++ zs)) L = some (.lst ((2 :: inter (trPairs p (cs.take (i + 1))) ns).map V.int)) := by
        intro H2 xs s3 hxs
        have lx : xs.length ≤ 1 := by
          rw [hxs, List.length_map, List.length_take]
          omega
        refine ⟨by rw [sizeLine_eq]; simp; omega, fun p1 np => ?_⟩
        have h3 := Same.trans s3 (same_up (o := .lst (V.int (trNum p t) :: V.int (trMany t : Int) :: (xs ++ []))) np)
        refine ⟨L, p1, _, _, rfl, rfl, h3 _ _ (s2 _ _ hL), upd_same, ?_, fun b o e => ?_, ⟨_, _, rfl⟩, ?_⟩
        · have := inter_len p (cs.take i) ns
          have := List.length_take_le i cs
          rw [sizeLine_eq]
          simp
          omega
        · rw [upd_ne (ne_of_none e nL)]
          exact h3 _ _ (hG _ _ e)
        · rw [upd_same, inter_step p cs ns i _ ht, hxs]
          simp
      refine ⟨.ref a, rfl, a, CP, dx, fs, .ref n, rfl, hG _ _ ha, hC, nN, lN, .int i, rfl, (i : Int), rfl, .int i, rfl, (i : Int), 1, rfl, rfl, (i : Int) + 1, rfl, n, ns.map V.int, rfl, (hn.same hG).sq, fun w => ?_, fun w T2 n2 => ?_⟩
      · refine ⟨n, ns.map V.int, rfl, .inl (hn.same hG).sq, ?_⟩
        refine key _ _ (Same.refl _) ?_
        rw [show ((i : Int) + 1) = ((i + 1 : Nat) : Int) by omega, HT.sIx_nat, HT.sIx_nat, List.length_map] at w
        obtain ⟨w1, w2⟩ := w
        congr 1
        rcases Nat.eq_zero_or_pos ns.length with h0 | h0
        · rw [List.length_eq_zero_iff.mp h0, List.drop_nil, List.take_nil]
        · obtain rfl : i = 0 := by omega
          rw [List.drop_zero, List.take_of_length_le (by omega)]
      · refine ⟨T2, _, rfl, .inl (TupN.sq (.inl upd_same)), ?_⟩
        refine key _ _ (same_up n2) ?_
        unfold cutV
        rw [show ((i : Int) + 1) = ((i + 1 : Nat) : Int) by omega, HT.sIx_nat, HT.sIx_nat, List.length_map, List.map_take, List.map_drop]
        rcases Nat.lt_or_ge i ns.length with h0 | h0
        · rw [show min i ns.length = i by omega, show min (i + 1) ns.length - i = 1 by omega]
        · rw [show min i ns.length = ns.length by omega, List.drop_of_length_le (by simp), List.drop_of_length_le (by simpa using h0)]
          simp
    · obtain ⟨s1, ⟨x2, x3, rfl⟩, hL⟩ := z
      rw [List.length_map, lk, List.take_length] at hL
      refine ⟨.ref L, rfl, L, _, rfl, SqL.of hL, ?_, ?_, fun H' s' => q H' (Same.trans s1 s')⟩
      · have := inter_len p cs ns
        simp
        omega
      · intro m hm
        rcases List.mem_cons.mp hm with rfl | hm
        · decide
        · exact inter_small p cs ns hko hs _ hm
end
end Sm
/-! Part.__init__. -/
namespace Sm
open PySem PySem.Spec PyProof.Rows L2 Vd RZ
section
variable {P : Program} {w : World} {K : PySem.W.Frag} {mg : Str → Option Value} {base : Heap}
theorem scPInit : FnScope ["self", "p", "children", "items", "fact", "_", "number", "child"] ["self", "p", "children", "items"] (defScope sPInit) := ⟨rfl, rfl, rfl, by decide +kernel, rfl, by decide +kernel, by decide +kernel⟩
theorem kt_keep {CP a : Addr} {o : HO} {H H' : Hp} (ha : H a = some o) (n : ¬ StayO CP o) (k : Keep a H H') : Kt CP H H' := fun b v e s => by
  by_cases q : b = a
  · subst q
    rw [ha] at e
    cases e
    exact absurd s n
  · exact k b v q e
theorem keepS {a : Addr} {H H' : Hp} (s : Same H H') : Keep a H H' := fun b o _ e => s b o e
def prD (p : Int) (d : PyData) : PyData := .tuple [d, .int (nmF p d)]
theorem pair_at {p : Int} {H : Hp} : ∀ {gs : List V} {own : List PyData} {i : Nat} {g : V}, DdAll K H gs (own.map (prD p)) → gs[i]? = some g → ∃ (T : Addr) (x : V) (d : PyData), g = .ref T ∧ own[i]? = some d ∧ TupN H T [x, .int (nmF p d)] ∧ Dd K H x d
  | gs, [], i, g, h, e => by
    cases h
    simp at e
  | gs, d :: r, 0, g, h, e => by
    cases h with
    | cons h1 h2 =>
      cases e
      cases h1 with
      | tup ht hd =>
        cases hd with
        | cons q1 q2 =>
          cases q2 with
          | cons q3 q4 =>
            cases q4
            cases q3
            exact ⟨_, _, _, rfl, rfl, ht, q1⟩
  | gs, d :: r, i + 1, g, h, e => by
    cases h with
    | cons h1 h2 => exact pair_at (own := r) (i := i) h2 (by simpa using e)
theorem ddAll_len {H : Hp} : ∀ {gs : List V} {ds : List PyData}, DdAll K H gs ds → gs.length = ds.length
  | _, _, .nil => rfl
  | _, _, .cons _ r => congrArg (· + 1) (ddAll_len r)
theorem ddAll_snoc {H : Hp} {v : V} {d : PyData} : ∀ {gs : List V} {ds : List PyData}, DdAll K H gs ds → Dd K H v d → DdAll K H (gs ++ [v]) (ds ++ [d])
  | _, _, .nil, h => .cons h .nil
  | _, _, .cons x r, h => .cons x (ddAll_snoc r h)
theorem prD_keys {p : Int} : ∀ {own : List PyData}, keyTs own = true → keyTs (own.map (prD p)) = true
  | [], _ => rfl
  | d :: r, h => by
    have h2 : keyT d = true ∧ keyTs r = true := by simpa [keyTs] using h
    have := prD_keys (p := p) h2.2
    simp [keyTs, keyT, prD, h2.1, this]
theorem take_snoc {α : Type} {xs : List α} {i : Nat} {x : α} (h : xs[i]? = some x) : xs.take (i + 1) = xs.take i ++ [x] := by
  rw [List.take_add_one, h]
  rfl
theorem same_updN {H H' : Hp} {D : Addr} {u : HO} (s : Same H H') (n : H D = none) : Same H (upd H' D u) := fun b o e => by
  rw [upd_ne (ne_of_none e n)]
  exact s b o e
theorem fld_step {CP a dx : Addr} {fs : List (Str × V)} {H Hm : Hp} {u : HO} (s : Same H Hm) (ha : H a = some (.ins CP dx fs)) (hl : fs.length ≠ 6) (hk : (fs.headD (("children" : Str), V.non)).1 = ("children" : Str) := by rfl) : Keep a H (upd Hm a u) ∧ Kt CP H (upd Hm a u) :=
  have k : Keep a H (upd Hm a u) := (keepS s).upd
  ⟨k, kt_keep ha (fun e => e.elim (fun e => hl e.2) fun ⟨n, m, e⟩ => by
    subst e
    exact absurd (show ("number" : Str) = "children" from hk) (by decide)) k⟩
theorem manys_sum : ∀ cs : List Tr, ((cs.map fun t => (trMany t : Int)).sum : Int) = ((trManys cs : Nat) : Int)
  | [] => rfl
  | t :: r => by
    unfold trManys
    rw [List.map_cons, List.sum_cons, manys_sum r]
    omega
theorem rank_if {CP a dx n : Addr} {fs : List (Str × V)} {H : Hp} {σ : L2.St} {p : Int} {cs : List Tr} {ks : List Addr} {own : List PyData} {Q : VK} (lk : ks.length = cs.length) (hσ : σ[0]? = some (some (.ref a))) (ha : H a = some (.ins CP dx fs)) (hC : Cls K CP) (hN : NoAttr K CP "numbers") (hl : fs.lookup ("numbers" : Str) = some (V.ref n)) (hn : TupN H n ((own.map (nmF p)).map V.int)) (hne : cs.isEmpty = false → own ≠ [])
    (q : Q (.int (if cs.isEmpty = true then 0 else (rkI ((own.map (nmF p)).headD 0) : Int))) H) : if (!(ks.map V.ref).isEmpty) = true then tCall spRank [] E0 (tCons (tOp (rIxT K) (tFld K (tVar 0) "numbers") (tC (.int 0))) tNil) σ H Q else tC (.int 0) σ H Q := by
  cases cs with
  | nil =>
    rw [List.length_eq_zero_iff.mp lk]
    exact q
  | cons t r =>
    cases ks with
    | nil => cases lk
    | cons k ks =>
      rw [if_pos (by rfl)]
      rw [if_neg (by simp)] at q
      cases own with
      | nil => exact absurd rfl (hne rfl)
      | cons d ds => exact ⟨_, hσ, a, CP, dx, fs, .ref n, rfl, ha, hC, hN, hl, n, _, 0, .int (nmF p d), rfl, rfl, hn.sq, by unfold atI ixN; simp, nmF p d, rfl, q⟩
def spPInit (CP : Addr) (p : Int) (K : PySem.W.Frag) : Sp := fun vs H Q _ => ∃ (a dx lc li : Addr) (ks : List Addr) (cs : List Tr) (own : List PyData) (gs : List V), vs = [.ref a, .int p, .ref lc, .ref li] ∧ H a = some (.ins CP dx []) ∧ Cls K CP ∧
  (∀ f ∈ (["children", "own", "numbers", "rank", "many", "number"] : List Str), NoAttr K CP f) ∧ lc ≠ a ∧ li ≠ a ∧ SqL K H lc (ks.map V.ref) ∧ PartsAt CP p K H ks cs ∧ SqL K H li gs ∧ DdAll K H gs (own.map (prD p)) ∧ keyTs own = true ∧ own.length ≤ 4000 ∧ cs.length ≤ 4000 ∧ (cs.isEmpty = false → own ≠ []) ∧
  1 < p ∧ p ≤ 170141183460469231731687303715884105728 ∧ KidsOk p cs ∧ ∀ H', Keep a H H' → PartAt CP p K H' a (.mk cs own) → Q .non H'
theorem ok_pinit {CP : Addr} {p : Int} {f : Addr} {fd : FuncData} (F : FunD K "__init__" "Part.__init__" (defArgs sPInit) (defBody sPInit) (defScope sPInit) [] [] f fd) (M : Nm mg) (M2 : Nm2 mg) (hU : CutK K) (DRk : Df P w K mg base "rank_of" 1 ["number"] spRank) (DMx : Df P w K mg base "mixed" 1 ["p", "text"] spMix) (DPT : Df P w K mg base "part_text" 2 ["part"] (spPText CP p K)) : FnOk P w K mg base CX0 3 f fd ["self", "p", "children", "items"] (spPInit CP p K) := by
  refine F.ok scPInit (fun vs H Q E h => ?_) (fun cdv A outer s H vs Q E hr h => ?_)
  · obtain ⟨a, dx, lc, li, ks, cs, own, gs, rfl, _⟩ := h
    rfl
  obtain ⟨a, dx, lc, li, ks, cs, own, gs, rfl, ha, hC, hNo, n1, n2, hlc, hks, hli, hgs, hkey, zo, zc, hne, p1, p2, hko, q⟩ := h
  refine ⟨_, PSs.nox (pss_cons (ps_fld (pv 0) (pe_callTy (r := rTupOf K) call_tuple_of (by rfl) M.tuple (by decide +kernel) (pa_cons (pv 2) pa_nil)) (by rfl))
      (pss_cons (ps_fld (pv 0) (pe_callTy (r := rTupOf K) call_tuple_of (by rfl) M.tuple (by decide +kernel) (pa_cons (pe_lc (own := [("fact", 4), ("_", 5)]) (g := gTup K 2 (gCons (gName 4) (gCons (gName 5) gNil))) (tt := tYes) (by rfl) scPInit.nd (pi_list (pv 3)) (blkOk_by (N := ["self", "p", "children", "items", "fact", "_", "number", "child"]) (sc := defScope sPInit) (by decide +kernel)) (fun _ _ _ _ _ => (pg_tup rfl (pgs_cons (pg_name (i := 4) scPInit.nd rfl (Or.inl rfl)) (pgs_cons (pg_name (i := 5) scPInit.nd rfl (Or.inl rfl)) pgs_nil)))) (fun _ _ _ _ _ => pts_nil) (fun _ _ _ _ _ => (pv 4))) pa_nil)) (by rfl))
      (pss_cons (ps_fld (pv 0) (pe_callTy (r := rTupOf K) call_tuple_of (by rfl) M.tuple (by decide +kernel) (pa_cons (pe_lc (own := [("_", 5), ("number", 6)]) (g := gTup K 2 (gCons (gName 5) (gCons (gName 6) gNil))) (tt := tYes) (by rfl) scPInit.nd (pi_list (pv 3)) (blkOk_by (N := ["self", "p", "children", "items", "fact", "_", "number", "child"]) (sc := defScope sPInit) (by decide +kernel)) (fun _ _ _ _ _ => (pg_tup rfl (pgs_cons (pg_name (i := 5) scPInit.nd rfl (Or.inl rfl)) (pgs_cons (pg_name (i := 6) scPInit.nd rfl (Or.inl rfl)) pgs_nil)))) (fun _ _ _ _ _ => pts_nil) (fun _ _ _ _ _ => (pv 6))) pa_nil)) (by rfl))
      (pss_cons (ps_fld (pv 0) (pe_ifExp (pt_truth (pv 2) (fun _ => rfl)) (pe_df DRk hr (by decide) (pa_cons (pe_ix (r := rIxT K) ix_tup (pe_fld (pv 0) (by rfl)) pe_int (fun _ _ => rfl)) pa_nil)) pe_int) (by rfl))
      (pss_cons (ps_fld (pv 0) (pe_op op_add (pe_callB call_len_seq (by rfl) M.len PySem.boot_len (pa_cons (pv 3) pa_nil)) (pe_callB (r := rSum K) (cr_sum rfl) (by rfl) M2.sum (by decide +kernel) (pa_cons (pe_lc (own := [("child", 7)]) (g := gName 7) (tt := tYes) (te := tFld K (tVar 7) "many") (by rfl) scPInit.nd (pi_list (pv 2)) (blkOk_by (N := ["self", "p", "children", "items", "fact", "_", "number", "child"]) (sc := defScope sPInit) (by decide +kernel)) (fun _ _ _ _ _ => pg_name (i := 7) scPInit.nd rfl (Or.inl rfl)) (fun _ _ _ _ _ => pts_nil) (fun _ _ _ _ _ => (pe_fld (pv 7) (by rfl)))) pa_nil))) (by rfl))
      (pss_one (ps_fld (pv 0) (pe_df DMx hr (by decide) (pa_cons (pv 1) (pa_cons (pe_df DPT hr (by decide) (pa_cons (pv 0) pa_nil)) pa_nil))) (by rfl)))))))), ?_⟩
  have lk := parts_len hks
  refine ⟨.ref lc, rfl, lc, _, rfl, .inl ⟨hlc, fun c nc => ⟨.ref a, rfl, a, CP, dx, [], rfl, same_up nc _ _ ha, hC, hNo _ (by simp), by decide, ?_⟩⟩⟩
  have ac : c ≠ a := fun e => by
    rw [e, ha] at nc
    cases nc
  have k1 : Keep a H (upd (upd H c (.tup (ks.map V.ref))) a (.ins CP dx (putF "children" (V.ref c) []))) := (keepS (same_up nc)).upd
  have e1 : (upd (upd H c (.tup (ks.map V.ref))) a (.ins CP dx (putF "children" (V.ref c) []))) a = some (.ins CP dx [("children", V.ref c)]) := upd_same
  have t1 : TupN (upd (upd H c (.tup (ks.map V.ref))) a (.ins CP dx (putF "children" (V.ref c) []))) c (ks.map V.ref) := .inl (by rw [upd_ne ac, upd_same])
  generalize upd (upd H c (.tup (ks.map V.ref))) a (.ins CP dx (putF "children" (V.ref c) [])) = H1 at k1 e1 t1 ⊢
  have nS : ∀ fs : List (Str × V), fs.length ≠ 6 → fs.length ≠ 2 → ¬ StayO CP (.ins CP dx fs) := fun fs h h2 e => e.elim (fun e => h e.2) fun ⟨n, m, e⟩ => h2 (by rw [e]; rfl)
  have kd1 : Kt CP H H1 := kt_keep ha (nS _ (by decide) (by decide)) k1
  have lgs : gs.length = own.length := by rw [ddAll_len hgs, List.length_map]
  have g1 : DdAll K H1 gs (own.map (prD p)) := dds_kt kd1 (prD_keys hkey) hgs
  refine ⟨_, rfl, li, rfl, ⟨gs, SqL.keep k1 n2 hli⟩, fun D hD => ?_⟩
  refine lc_list (xs := gs) (fun i H' => Same H1 H' ∧ ∃ ys, H' D = some (.lst ys) ∧ DdAll K H1 ys (own.take i)) ⟨same_up hD, [], upd_same, .nil⟩ (fun i H' _ e => Same.seq e.1 (SqL.keep k1 n2 hli)) (fun i x H' hx e => ?_) (fun H2 e => ?_)
  · obtain ⟨s2, ys, hy, hd⟩ := e
    obtain ⟨T, xv, d, rfl, hdi, hT, hx'⟩ := pair_at g1 hx
    refine ⟨T, _, rfl, (hT.same s2).sq, rfl, xv, _, rfl, .int (nmF p d), [], rfl, rfl, rfl, ?_⟩
    show ∃ v, _ ∧ _
    refine ⟨xv, rfl, ys, hy, ?_, same_updN s2 hD, _, upd_same, ?_⟩
    · have := ddAll_len hd
      rw [List.length_take] at this
      rw [sizeLine_eq]
      omega
    · rw [take_snoc hdi]
      exact ddAll_snoc hd hx'
  obtain ⟨s2, ys, hy, hd⟩ := e
  rw [lgs, List.take_length] at hd
  refine ⟨D, ys, rfl, .inl ⟨SqL.of hy, fun o no => ⟨.ref a, rfl, a, CP, dx, _, rfl, same_up no _ _ (s2 _ _ e1), hC, hNo _ (by simp), by simp, ?_⟩⟩⟩
  obtain ⟨k3, kt3⟩ := fld_step (u := .ins CP dx (putF "own" (V.ref o) [("children", V.ref c)])) (Same.trans s2 (same_up (o := .tup ys) no)) e1 (by simp)
  have ao : o ≠ a := fun e => by
    rw [e, s2 _ _ e1] at no
    cases no
  have e3 : (upd (upd H2 o (.tup ys)) a (.ins CP dx (putF "own" (V.ref o) [("children", V.ref c)]))) a = some (.ins CP dx [("children", V.ref c), ("own", V.ref o)]) := upd_same
  have t3 : TupN (upd (upd H2 o (.tup ys)) a (.ins CP dx (putF "own" (V.ref o) [("children", V.ref c)]))) o ys := .inl (by rw [upd_ne ao, upd_same])
  generalize upd (upd H2 o (.tup ys)) a (.ins CP dx (putF "own" (V.ref o) [("children", V.ref c)])) = H3 at k3 kt3 e3 t3 ⊢
  have d3 : Dd K H3 (.ref o) (.tuple own) := .tup t3 (dds_kt kt3 hkey hd)
  have t3c := TupN.kt t1 kt3
  have g3 := dds_kt kt3 (prD_keys hkey) g1
  have kk3 := k1.trans k3
  have kkt3 := kd1.trans kt3
  clear t3 g1 hd hy s2 no e1 hD
  refine ⟨_, rfl, li, rfl, ⟨gs, SqL.keep kk3 n2 hli⟩, fun D4 hD4 => ?_⟩
  refine lc_list (xs := gs) (fun i H' => Same H3 H' ∧ H' D4 = some (.lst (((own.map (nmF p)).take i).map V.int))) ⟨same_up hD4, upd_same⟩ (fun i H' _ e => Same.seq e.1 (SqL.keep kk3 n2 hli)) (fun i x H' hx e => ?_) (fun H4 e => ?_)
  · obtain ⟨s2, hy⟩ := e
    obtain ⟨T, xv, d, rfl, hdi, hT, hx'⟩ := pair_at g3 hx
    refine ⟨T, _, rfl, (hT.same s2).sq, rfl, xv, _, rfl, .int (nmF p d), [], rfl, rfl, rfl, ?_⟩
    show ∃ v, _ ∧ _
    refine ⟨.int (nmF p d), rfl, _, hy, ?_, same_updN s2 hD4, ?_⟩
    · rw [List.length_map, List.length_take, List.length_map, sizeLine_eq]
      omega
    · rw [upd_same, take_snoc (xs := own.map (nmF p)) (x := nmF p d) (by rw [List.getElem?_map, hdi]; rfl), List.map_append]
      rfl
  obtain ⟨s4, hy⟩ := e
  rw [List.take_of_length_le (by rw [List.length_map]; omega)] at hy
  refine ⟨D4, _, rfl, .inl ⟨SqL.of hy, fun n nn => ⟨.ref a, rfl, a, CP, dx, _, rfl, same_up nn _ _ (s4 _ _ e3), hC, hNo _ (by simp), by simp, ?_⟩⟩⟩
  have an : n ≠ a := fun e => by
    rw [e, s4 _ _ e3] at nn
    cases nn
  obtain ⟨k5, kt5⟩ := fld_step (u := .ins CP dx (putF "numbers" (V.ref n) [("children", V.ref c), ("own", V.ref o)])) (Same.trans s4 (same_up (o := .tup ((own.map (nmF p)).map V.int)) nn)) e3 (by simp)
  have e5 : (upd (upd H4 n (.tup ((own.map (nmF p)).map V.int))) a (.ins CP dx (putF "numbers" (V.ref n) [("children", V.ref c), ("own", V.ref o)]))) a = some (.ins CP dx [("children", V.ref c), ("own", V.ref o), ("numbers", V.ref n)]) := upd_same
  have t5 : TupN (upd (upd H4 n (.tup ((own.map (nmF p)).map V.int))) a (.ins CP dx (putF "numbers" (V.ref n) [("children", V.ref c), ("own", V.ref o)]))) n ((own.map (nmF p)).map V.int) := .inl (by rw [upd_ne an, upd_same])
  generalize upd (upd H4 n (.tup ((own.map (nmF p)).map V.int))) a (.ins CP dx (putF "numbers" (V.ref n) [("children", V.ref c), ("own", V.ref o)])) = H5 at k5 kt5 e5 t5 ⊢
  have d5 : Dd K H5 (.ref o) (.tuple own) := dd_kt kt5 hkey d3
  have t5c := TupN.kt t3c kt5
  have kk5 := kk3.trans k5
  have kkt5 := kkt3.trans kt5
  clear d3 t3c g3 hy s4 nn e3 hD4
  refine ⟨.ref lc, rfl, _, .inl ⟨ks.map V.ref, SqL.keep kk5 n1 hlc, rfl⟩, ?_⟩
  refine rank_if (p := p) (cs := cs) (own := own) lk rfl e5 hC (hNo _ (by simp)) rfl t5 hne ?_
  refine ⟨.ref a, rfl, a, CP, dx, _, rfl, e5, hC, hNo _ (by simp), by simp, ?_⟩
  obtain ⟨k6, kt6⟩ := fld_step (u := .ins CP dx (putF "rank" (V.int (if cs.isEmpty = true then 0 else (rkI ((own.map (nmF p)).headD 0) : Int))) [("children", V.ref c), ("own", V.ref o), ("numbers", V.ref n)])) (Same.refl H5) e5 (by simp)
  have e6 : (upd H5 a (.ins CP dx (putF "rank" (V.int (if cs.isEmpty = true then 0 else (rkI ((own.map (nmF p)).headD 0) : Int))) [("children", V.ref c), ("own", V.ref o), ("numbers", V.ref n)]))) a = some (.ins CP dx [("children", V.ref c), ("own", V.ref o), ("numbers", V.ref n), ("rank", V.int (if cs.isEmpty = true then 0 else (rkI ((own.map (nmF p)).headD 0) : Int)))]) := upd_same
  generalize upd H5 a (.ins CP dx (putF "rank" (V.int (if cs.isEmpty = true then 0 else (rkI ((own.map (nmF p)).headD 0) : Int))) [("children", V.ref c), ("own", V.ref o), ("numbers", V.ref n)])) = H6 at k6 kt6 e6 ⊢
  have d6 : Dd K H6 (.ref o) (.tuple own) := dd_kt kt6 hkey d5
  have t6c := TupN.kt t5c kt6
  have t6 := TupN.kt t5 kt6
  have kk6 := kk5.trans k6
  have kkt6 := kkt5.trans kt6
  have h6 := hks.kt kkt6
  clear d5 t5c t5 e5
  refine ⟨.ref li, rfl, li, gs, rfl, .inl (SqL.keep kk6 n2 hli), ?_⟩
  refine ⟨.ref lc, rfl, lc, rfl, ⟨ks.map V.ref, SqL.keep kk6 n1 hlc⟩, fun D6 hD6 => ?_⟩
  refine lc_list (xs := ks.map V.ref) (fun i H' => Same H6 H' ∧ H' D6 = some (.lst (((cs.map fun t => (trMany t : Int)).take i).map V.int))) ⟨same_up hD6, upd_same⟩ (fun i H' _ e => Same.seq e.1 (SqL.keep kk6 n1 hlc)) (fun i x H' hx e => ?_) (fun H7 e => ?_)
  · obtain ⟨s2, hy⟩ := e
    rw [List.getElem?_map] at hx
    obtain ⟨k, hkx, rfl⟩ := Option.map_eq_some_iff.mp hx
    obtain ⟨t, ht, hP⟩ := parts_at h6 hkx
    have hP2 := hP.kt (kt_same s2)
    obtain ⟨C', dx', fs', hk1, hC', ln', lm'⟩ := part_nm hP2
    obtain ⟨hC2, nM2⟩ : Cls K C' ∧ NoAttr K C' "many" := by
      rcases hC' with rfl | rfl
      · exact ⟨hC, hNo _ (by simp)⟩
      · exact ⟨hU.c, hU.m⟩
    refine ⟨rfl, ?_⟩
    show ∃ v, _ ∧ _
    refine ⟨.ref k, rfl, k, C', dx', _, .int (trMany t : Int), rfl, hk1, hC2, nM2, lm', _, hy, ?_, same_updN s2 hD6, ?_⟩
    · rw [List.length_map, List.length_take, List.length_map, sizeLine_eq]
      omega
    · rw [upd_same, take_snoc (xs := cs.map fun t => (trMany t : Int)) (x := (trMany t : Int)) (by rw [List.getElem?_map, ht]; rfl), List.map_append]
      rfl
  obtain ⟨s7, hy⟩ := e
  rw [List.take_of_length_le (by rw [List.length_map, List.length_map, lk]; exact Nat.le_refl _)] at hy
  refine ⟨D6, _, rfl, SqL.of hy, _, _, rfl, rfl, .ref a, rfl, a, CP, dx, _, rfl, s7 _ _ e6, hC, hNo _ (by simp), by simp, ?_⟩
  have hm : (gs.length : Int) + (cs.map fun t => (trMany t : Int)).sum = (trMany (.mk cs own) : Int) := by
    rw [manys_sum, lgs]
    unfold trMany
    omega
  dsimp only
  rw [hm]
  obtain ⟨k8, kt8⟩ := fld_step (u := .ins CP dx (putF "many" (V.int (trMany (.mk cs own) : Int)) [("children", V.ref c), ("own", V.ref o), ("numbers", V.ref n), ("rank", V.int (if cs.isEmpty = true then 0 else (rkI ((own.map (nmF p)).headD 0) : Int)))])) s7 e6 (by simp)
  have e8 : (upd H7 a (.ins CP dx (putF "many" (V.int (trMany (.mk cs own) : Int)) [("children", V.ref c), ("own", V.ref o), ("numbers", V.ref n), ("rank", V.int (if cs.isEmpty = true then 0 else (rkI ((own.map (nmF p)).headD 0) : Int)))]))) a = some (.ins CP dx [("children", V.ref c), ("own", V.ref o), ("numbers", V.ref n), ("rank", V.int (if cs.isEmpty = true then 0 else (rkI ((own.map (nmF p)).headD 0) : Int))), ("many", V.int (trMany (.mk cs own) : Int))]) := upd_same
  generalize upd H7 a (.ins CP dx (putF "many" (V.int (trMany (.mk cs own) : Int)) [("children", V.ref c), ("own", V.ref o), ("numbers", V.ref n), ("rank", V.int (if cs.isEmpty = true then 0 else (rkI ((own.map (nmF p)).headD 0) : Int)))])) = H8 at k8 kt8 e8 ⊢
  have d8 : Dd K H8 (.ref o) (.tuple own) := dd_kt kt8 hkey d6
  have t8c := TupN.kt t6c kt8
  have t8 := TupN.kt t6 kt8
  have kk8 := kk6.trans k8
  have h8 := h6.kt kt8
  have sm : Small (own.map (nmF p)) := fun m hm => by
    obtain ⟨d, _, rfl⟩ := List.mem_map.mp hm
    have := mixF_rng p1 (ftext d)
    unfold nmF
    omega
  refine ⟨.int p, rfl, .ref a, rfl, a, dx, c, n, _, ks, cs, own.map (nmF p), rfl, e8, hC, hNo _ (by simp), hNo _ (by simp), hNo _ (by simp), hNo _ (by simp), rfl, rfl, t8c, h8, t8, sm, hko, by rw [List.length_map]; exact zo, zc, fun H9 s9 => ⟨p, _, rfl, by omega, p2, nText_sml _, .ref a, rfl, a, CP, dx, _, rfl, s9 _ _ e8, hC, hNo _ (by simp), by simp, ?_⟩⟩
  obtain ⟨k9, kt9⟩ := fld_step (u := .ins CP dx (partF p c o n cs own)) s9 e8 (by simp)
  have hnum : mixF p (nText (if cs.isEmpty = true then 1 :: own.map (nmF p) else 2 :: inter (trPairs p cs) (own.map (nmF p)))) = trNum p (.mk cs own) := by
    unfold trNum
    split <;> rfl
  rw [hnum]
  refine q _ (kk8.trans k9) ?_
  unfold PartAt
  exact ⟨hkey, dx, c, o, n, ks, upd_same, TupN.kt t8c kt9, h8.kt kt9, dd_kt kt9 hkey d8, TupN.kt t8 kt9⟩
end
end Sm
/-! Reckoner.part. -/
namespace Sm
open PySem PySem.Spec PyProof.Rows L2 Vd RZ
section
variable {P : Program} {w : World} {K : PySem.W.Frag} {mg : Str → Option Value} {base : Heap}
structure PMk (P : Program) (w : World) (K : PySem.W.Frag) (mg : Str → Option Value) (base : Heap) (CP : Addr) (p : Int) (f : Addr) (fd : FuncData) : Prop where
  M : Mk K CP f
  F : FnOk P w K mg base CX0 3 f fd ["self", "p", "children", "items"] (spPInit CP p K)
  hm : mg "Part" = some (.ref CP)
  hb : Binds K fd ["self", "p", "children", "items"] []
theorem scRPart : FnScope ["self", "children", "items"] ["self", "children", "items"] (defScope sRPart) := ⟨rfl, rfl, rfl, by decide +kernel, rfl, by decide +kernel, by decide +kernel⟩
/-- a Reckoner: how many it made, and its prime -/
def recF (m p : Int) : List (Str × V) := [("made", .int m), ("_p", .int p)]
def spRPart (CP CR : Addr) (p : Int) (K : PySem.W.Frag) : Sp := fun vs H Q _ => ∃ (r dx lc li : Addr) (m : Int) (ks : List Addr) (cs : List Tr) (own : List PyData) (gs : List V), vs = [.ref r, .ref lc, .ref li] ∧ H r = some (.ins CR dx (recF m p)) ∧ Cls K CR ∧ NoAttr K CR "made" ∧ NoAttr K CR "_p" ∧ Cls K CP ∧
  (∀ f ∈ (["children", "own", "numbers", "rank", "many", "number"] : List Str), NoAttr K CP f) ∧ (∃ us, H lc = some (.lst us)) ∧ (∃ us, H li = some (.lst us)) ∧ SqL K H lc (ks.map V.ref) ∧ PartsAt CP p K H ks cs ∧ SqL K H li gs ∧ DdAll K H gs (own.map (prD p)) ∧ keyTs own = true ∧ own.length ≤ 4000 ∧ cs.length ≤ 4000 ∧ (cs.isEmpty = false → own ≠ []) ∧
  1 < p ∧ p ≤ 170141183460469231731687303715884105728 ∧ KidsOk p cs ∧ ∀ H' a, Keep r H H' → H a = none → H' r = some (.ins CR dx (recF (m + 1) p)) → PartAt CP p K H' a (.mk cs own) → Q (.ref a) H'
theorem ok_rpart {CP CR : Addr} {p : Int} {f f0 : Addr} {fd fd0 : FuncData} (F : FunD K "part" "Reckoner.part" (defArgs sRPart) (defBody sRPart) (defScope sRPart) [] [] f fd) (PM : PMk P w K mg base CP p f0 fd0) : FnOk P w K mg base CX0 5 f fd ["self", "children", "items"] (spRPart CP CR p K) := by
  refine F.ok scRPart (fun vs H Q E h => ?_) (fun cdv A outer s H vs Q E hr h => ?_)
  · obtain ⟨r, dx, lc, li, m, ks, cs, own, gs, rfl, _⟩ := h
    rfl
  obtain ⟨r, dx, lc, li, m, ks, cs, own, gs, rfl, ha, hCR, nm, np, hC, hNo, ⟨u1, hl1⟩, ⟨u2, hl2⟩, hlc, hks, hli, hgs, hkey, zo, zc, hne, p1, p2, hko, q⟩ := h
  refine ⟨_, PSs.nox (pss_cons (ps_fldaug (pv 0) pe_int ip_add)
      (pss_one (ps_ret (pe_make PM.M PM.F hr (by rfl) PM.hm PM.hb .nil pass0 (pa_cons (pe_fld (pv 0) (by rfl)) (pa_cons (pv 1) (pa_cons (pv 2) pa_nil))))))), ?_⟩
  have n1 : lc ≠ r := fun e => by
    rw [e, ha] at hl1
    cases hl1
  have n2 : li ≠ r := fun e => by
    rw [e, ha] at hl2
    cases hl2
  refine ⟨.ref r, rfl, r, CR, dx, _, .int m, rfl, ha, hCR, nm, rfl, m, 1, rfl, rfl, dx, recF m p, ha, by simp [recF], ?_⟩
  have k1 : Keep r H (upd H r (.ins CR dx (putF "made" (V.int (m + 1)) (recF m p)))) := Keep.refl.upd
  have kt1 : Kt CP H (upd H r (.ins CR dx (putF "made" (V.int (m + 1)) (recF m p)))) := kt_keep ha (stay_not (by simp [recF]) (by show ¬ ("made" : Str) = "number"; decide)) k1
  have e1 : upd H r (.ins CR dx (putF "made" (V.int (m + 1)) (recF m p))) r = some (.ins CR dx (recF (m + 1) p)) := upd_same
  have o1 : ∀ b, upd H r (.ins CR dx (putF "made" (V.int (m + 1)) (recF m p))) b = none → H b = none ∧ b ≠ r := fun b hb => by
    have nb : b ≠ r := fun e => by
      rw [e, upd_same] at hb
      cases hb
    rw [upd_ne nb] at hb
    exact ⟨hb, nb⟩
  generalize upd H r (.ins CR dx (putF "made" (V.int (m + 1)) (recF m p))) = H1 at k1 kt1 e1 o1 ⊢
  refine ⟨.ref r, rfl, r, CR, dx, _, .int p, rfl, e1, hCR, np, rfl, .ref lc, rfl, .ref li, rfl, fun x dx' nx ndx ne => ?_⟩
  have s2 : Same H1 (upd (upd H1 dx' (.own x)) x (.ins CP dx' [])) := Same.trans (same_up ndx) (same_up (by rw [upd_ne (Ne.symm ne)]; exact nx))
  have kt2 := kt1.trans (kt_same s2)
  have hx : ∀ b o, H1 b = some o → b ≠ x := fun b o hb e => by
    rw [e, nx] at hb
    cases hb
  refine ⟨x, dx', lc, li, ks, cs, own, gs, rfl, upd_same, hC, hNo, hx _ _ (k1 _ _ n1 hl1), hx _ _ (k1 _ _ n2 hl2), Same.seq s2 (SqL.keep k1 n1 hlc), hks.kt kt2, Same.seq s2 (SqL.keep k1 n2 hli), dds_kt kt2 (prD_keys hkey) hgs, hkey, zo, zc, hne, p1, p2, hko, fun H' k' part => ⟨rfl, ?_⟩⟩
  refine q H' x (fun b o nb hb => ?_) (o1 x nx).1 (k' _ _ (hx _ _ e1) (s2 _ _ e1)) part
  have h1 := k1 b o nb hb
  exact k' _ _ (hx _ _ h1) (s2 _ _ h1)
end
end Sm
/-! Reckoner.item. -/
namespace Sm
open PySem PySem.Spec PyProof.Rows L2 Vd RZ
section
variable {P : Program} {w : World} {K : PySem.W.Frag} {mg : Str → Option Value} {base : Heap}
theorem none_of_same {H H' : Hp} {T : Addr} (s : Same H H') (n : H' T = none) : H T = none := by
  cases e : H T with
  | none => rfl
  | some o =>
    rw [s _ _ e] at n
    cases n
theorem scItem : FnScope ["self", "fact"] ["self", "fact"] (defScope sItem) := ⟨rfl, rfl, rfl, by decide +kernel, rfl, by decide +kernel, by decide +kernel⟩
def spItem (CR : Addr) (p : Int) (K : PySem.W.Frag) : Sp := fun vs H Q _ => ∃ (r dx : Addr) (m : Int) (v : V) (d : PyData), vs = [.ref r, v] ∧ H r = some (.ins CR dx (recF m p)) ∧ Cls K CR ∧ NoAttr K CR "_p" ∧ Dd K H v d ∧ okD d = true ∧ factD d = true ∧ 1 < p ∧ p ≤ 170141183460469231731687303715884105728 ∧
  ∀ T H', Same H H' → H T = none → TupN H' T [v, .int (nmF p d)] → Q (.ref T) H'
theorem ok_item {CR : Addr} {p : Int} {f : Addr} {fd : FuncData} (F : FunD K "item" "Reckoner.item" (defArgs sItem) (defBody sItem) (defScope sItem) [] [] f fd) (DMx : Df P w K mg base "mixed" 1 ["p", "text"] spMix) (DTx : Df P w K mg base "text_of" 2 ["fact"] (spText K)) : FnOk P w K mg base CX0 3 f fd ["self", "fact"] (spItem CR p K) := by
  refine F.ok scItem (fun vs H Q E h => ?_) (fun cdv A outer s H vs Q E hr h => ?_)
  · obtain ⟨r, dx, m, v, d, rfl, _⟩ := h
    rfl
  obtain ⟨r, dx, m, v, d, rfl, ha, hCR, np, hv, ok, hf, p1, p2, q⟩ := h
  refine ⟨_, PSs.nox (pss_one (ps_ret (pe_tup (pa_cons (pv 1) (pa_cons (pe_df DMx hr (by decide) (pa_cons (pe_fld (pv 0) (by rfl)) (pa_cons (pe_df DTx hr (by decide) (pa_cons (pv 1) pa_nil)) pa_nil))) pa_nil))))), ?_⟩
  refine ⟨v, rfl, .ref r, rfl, r, CR, dx, _, .int p, rfl, ha, hCR, np, rfl, v, rfl, ?_⟩
  exact ⟨v, d, rfl, hv, ok, hf, fun H1 s1 => ⟨p, ftext d, rfl, by omega, p2, ftext_sml ok hf, by rw [sizeLine_eq]; simp, fun T nT => q T _ (Same.trans s1 (same_up nT)) (none_of_same s1 nT) (.inl upd_same)⟩⟩
end
end Sm
/-! What the tree of a list has: how many facts, how many parts, small numbers. -/
namespace Sm
open PySem PySem.Spec PyProof.Rows L2 Vd
theorem trCounts_snoc (t : Tr) : ∀ ts : List Tr, trCounts (ts ++ [t]) = trCounts ts + trCount t
  | [] => by simp [trCounts]
  | a :: r => by
    rw [List.cons_append]
    unfold trCounts
    rw [trCounts_snoc t r]
    omega
theorem cut_many (q : PyData → Bool) : ∀ (ds : List PyData) (s : Cut), ((ds.foldl (cutS q) s).1.map List.length).sum + (ds.foldl (cutS q) s).2.1.length + (ds.foldl (cutS q) s).2.2.length = (s.1.map List.length).sum + s.2.1.length + s.2.2.length + ds.length
  | [], s => rfl
  | d :: r, s => by
    rw [List.foldl_cons, cut_many q r, List.length_cons]
    unfold cutS
    split
    · simp only [List.map_append, List.sum_append, List.map_cons, List.map_nil, List.sum_cons, List.sum_nil, List.length_append, List.length_cons, List.length_nil]
      omega
    · simp only [List.length_append, List.length_cons, List.length_nil]
      omega
theorem pieces_many (q : PyData → Bool) (ds : List PyData) : ((pieces q ds).map List.length).sum + (owns q ds).length = ds.length := by
  have h := cut_many q ds ([], [], [])
  unfold pieces owns cutA
  simp only [List.map_append, List.sum_append, List.map_cons, List.map_nil, List.sum_cons, List.sum_nil, List.length_nil] at h ⊢
  omega
theorem trManys_map {f : List PyData → Tr} (h : ∀ l, trMany (f l) = l.length) : ∀ ls : List (List PyData), trManys (ls.map f) = (ls.map List.length).sum
  | [] => rfl
  | l :: r => by
    rw [List.map_cons, List.map_cons, List.sum_cons]
    unfold trManys
    rw [h l, trManys_map h r]
theorem treeF_many (p : Int) : ∀ (k : Nat) (ds : List PyData), trMany (treeF p k ds) = ds.length
  | 0, ds => by
    unfold treeF trMany trManys
    rfl
  | k + 1, ds => by
    unfold treeF
    split
    · unfold trMany
      rw [trManys_map (treeF_many p k)]
      have := pieces_many (fun d => rkP p d == k + 1) ds
      omega
    · exact treeF_many p k ds
theorem tree_many (p : Int) (ds : List PyData) : trMany (tree p ds) = ds.length := treeF_many p 6 ds
theorem trNum_mk {p : Int} (p1 : 1 < p) (cs : List Tr) (own : List PyData) : 0 ≤ trNum p (.mk cs own) ∧ trNum p (.mk cs own) < p := by
  unfold trNum
  split <;> exact mixF_rng p1 _
theorem trNum_rng {p : Int} (p1 : 1 < p) (ds : List PyData) : 0 ≤ trNum p (tree p ds) ∧ trNum p (tree p ds) < p := by
  obtain ⟨cs, own, e⟩ := treeF_mk p 6 ds
  rw [show tree p ds = .mk cs own from e]
  exact trNum_mk p1 cs own
theorem le_sum {l : List Nat} {x : Nat} (h : x ∈ l) : x ≤ l.sum := by
  induction l with
  | nil => cases h
  | cons y r ih =>
    rw [List.sum_cons]
    rcases List.mem_cons.mp h with rfl | h
    · omega
    · have := ih h
      omega
theorem piece_len {q : PyData → Bool} {ds l : List PyData} (h : l ∈ pieces q ds) : l.length ≤ ds.length := by
  have h1 := pieces_many q ds
  have h2 := le_sum (List.mem_map_of_mem (f := List.length) h)
  omega
theorem kids_small {p : Int} {q : PyData → Bool} {ds : List PyData} (p1 : 1 < p) (p2 : p ≤ 170141183460469231731687303715884105728) (z : ds.length ≤ 4000) : KidsOk p ((pieces q ds).map (tree p)) := fun t ht => by
  obtain ⟨l, hl, rfl⟩ := List.mem_map.mp ht
  have h1 := trNum_rng p1 l
  have h2 := piece_len hl
  rw [tree_many]
  omega
theorem placesF_at (q : PyData → Bool) : ∀ (ds : List PyData) (n i e : Nat), (placesF q n ds)[i]? = some e → ∃ d, ds[e - n]? = some d ∧ n ≤ e ∧ (ds.filter q)[i]? = some d
  | [], n, i, e, h => by simp [placesF] at h
  | d :: r, n, i, e, h => by
    unfold placesF at h
    cases hq : q d with
    | true =>
      rw [hq, if_pos rfl] at h
      rw [List.filter_cons_of_pos hq]
      cases i with
      | zero =>
        cases h
        exact ⟨d, by simp, Nat.le_refl _, rfl⟩
      | succ i =>
        obtain ⟨x, h1, h2, h3⟩ := placesF_at q r (n + 1) i e (by simpa using h)
        exact ⟨x, by rw [show e - n = (e - (n + 1)) + 1 by omega]; simpa using h1, by omega, by simpa using h3⟩
    | false =>
      rw [hq, if_neg Bool.false_ne_true] at h
      rw [List.filter_cons_of_neg (by rw [hq]; exact Bool.false_ne_true)]
      obtain ⟨x, h1, h2, h3⟩ := placesF_at q r (n + 1) i e h
      exact ⟨x, by rw [show e - n = (e - (n + 1)) + 1 by omega]; simpa using h1, by omega, h3⟩
theorem places_at {q : PyData → Bool} {ds : List PyData} {i e : Nat} (h : (places q ds)[i]? = some e) : ∃ d, ds[e]? = some d ∧ (owns q ds)[i]? = some d := by
  obtain ⟨d, h1, _, h3⟩ := placesF_at q ds 0 i e h
  rw [owns_filter]
  exact ⟨d, h1, h3⟩
theorem placesF_len (q : PyData → Bool) : ∀ (ds : List PyData) (n : Nat), (placesF q n ds).length = (ds.filter q).length
  | [], n => rfl
  | d :: r, n => by
    unfold placesF
    cases hq : q d with
    | true => rw [if_pos rfl, List.filter_cons_of_pos hq, List.length_cons, List.length_cons, placesF_len q r]
    | false => rw [if_neg Bool.false_ne_true, List.filter_cons_of_neg (by rw [hq]; exact Bool.false_ne_true), placesF_len q r]
theorem places_len (q : PyData → Bool) (ds : List PyData) : (places q ds).length = (owns q ds).length := by
  rw [owns_filter]
  exact placesF_len q ds 0
theorem places_snoc (q : PyData → Bool) {ds : List PyData} {i : Nat} {d : PyData} (h : ds[i]? = some d) : places q (ds.take (i + 1)) = places q (ds.take i) ++ (if q d = true then [i] else []) := by
  have hl := (List.getElem?_eq_some_iff.mp h).1
  rw [take_snoc h]
  unfold places
  rw [placesF_app, Nat.zero_add, List.length_take, Nat.min_eq_left (by omega)]
  rfl
theorem places_le {q : PyData → Bool} {ds : List PyData} {e : Nat} (h : e ∈ places q ds) : e < ds.length := by
  have := (placesF_lt q ds 0 e h).2
  omega
theorem pieces_len (q : PyData → Bool) (ds : List PyData) : (pieces q ds).length = (places q ds).length + 1 := by
  rw [pieces_slices, List.length_map, List.length_zip]
  simp
/-- a slice between two places, both within the list -/
theorem pieces_at {q : PyData → Bool} {ds : List PyData} {i s e : Nat} (h1 : (0 :: (places q ds).map (· + 1))[i]? = some s) (h2 : (places q ds ++ [ds.length])[i]? = some e) : (pieces q ds)[i]? = some (slc ds s e) ∧ s ≤ ds.length ∧ e ≤ ds.length := by
  refine ⟨?_, ?_, ?_⟩
  · rw [pieces_slices, List.getElem?_map, List.getElem?_zip_eq_some (z := (s, e)) |>.mpr ⟨h1, h2⟩]
    rfl
  · rcases List.mem_cons.mp (List.mem_of_getElem? h1) with rfl | h
    · exact Nat.zero_le _
    · obtain ⟨x, hx, rfl⟩ := List.mem_map.mp h
      exact places_le hx
  · rcases List.mem_append.mp (List.mem_of_getElem? h2) with h | h
    · exact Nat.le_of_lt (places_le h)
    · rw [List.mem_singleton.mp h]
      exact Nat.le_refl _
section
variable {K : PySem.W.Frag}
theorem ddAll_take {H : Hp} : ∀ {gs : List V} {ds : List PyData} (n : Nat), DdAll K H gs ds → DdAll K H (gs.take n) (ds.take n)
  | _, _, 0, _ => .nil
  | _, _, n + 1, .nil => .nil
  | _, _, n + 1, .cons h r => .cons h (ddAll_take n r)
theorem ddAll_drop {H : Hp} : ∀ {gs : List V} {ds : List PyData} (n : Nat), DdAll K H gs ds → DdAll K H (gs.drop n) (ds.drop n)
  | _, _, 0, h => h
  | _, _, n + 1, .nil => .nil
  | _, _, n + 1, .cons h r => ddAll_drop n r
end
end Sm
/-! Reckoner.tree. -/
namespace Sm
open PySem PySem.Spec PyProof.Rows L2 Vd RZ
section
variable {P : Program} {w : World} {K : PySem.W.Frag} {mg : Str → Option Value} {base : Heap}
structure MPart (P : Program) (w : World) (K : PySem.W.Frag) (mg : Str → Option Value) (base : Heap) (CP CR : Addr) (p : Int) (f : Addr) (fd : FuncData) : Prop where
  m : Meth K CR "part" f
  F : FnOk P w K mg base CX0 5 f fd ["self", "children", "items"] (spRPart CP CR p K)
  hb : Binds K fd ["self", "children", "items"] []
theorem rec_not {CP CR dx : Addr} {m p : Int} : ¬ StayO CP (.ins CR dx (recF m p)) := stay_not (by simp [recF]) (by show ¬ ("made" : Str) = "number"; decide)
theorem none_keep {r a : Addr} {H H' : Hp} {o : HO} (k : Keep r H H') (h : H' r = some o) (n : H' a = none) : H a = none := by
  cases e : H a with
  | none => rfl
  | some v =>
    by_cases q : a = r
    · subst q
      rw [h] at n
      cases n
    · rw [k _ _ q e] at n
      cases n
theorem keyTs_all : ∀ {ds : List PyData}, keyTs ds = true ↔ ∀ d ∈ ds, keyT d = true
  | [] => ⟨fun _ _ h => (nomatch h), fun _ => rfl⟩
  | d :: r => by
    have ih := keyTs_all (ds := r)
    unfold keyTs
    rw [Bool.and_eq_true_iff, ih, List.forall_mem_cons]
theorem places_len_le (q : PyData → Bool) (ds : List PyData) : (places q ds).length ≤ ds.length := by
  rw [places_len, owns_filter]
  exact List.length_filter_le _ _
theorem le5 {j n : Nat} (h : j ≤ 5) : j ≤ Nat.add 5 n := Nat.le_trans h (Nat.le_add_right 5 n)
theorem scTree : FnScope ["self", "items", "rank", "places", "starts", "children", "_", "number", "at", "item", "start", "end"] ["self", "items"] (defScope sTree) := ⟨rfl, rfl, rfl, by decide +kernel, rfl, by decide +kernel, by decide +kernel⟩
def spTree (CP CR : Addr) (p : Int) (K : PySem.W.Frag) : Nat → Sp
  | 0 => fun _ _ _ _ => False
  | k + 1 => fun vs H Q _ => ∃ (r dx li : Addr) (m : Int) (ds : List PyData) (gs : List V), vs = [.ref r, .ref li] ∧ H r = some (.ins CR dx (recF m p)) ∧ (∃ us, H li = some (.lst us)) ∧ SqL K H li gs ∧ DdAll K H gs (ds.map (prD p)) ∧ keyTs ds = true ∧ ds.length ≤ 3000 ∧ (∀ d ∈ ds, rkP p d ≤ k) ∧
    ∀ H' a, Keep r H H' → H a = none → H' r = some (.ins CR dx (recF (m + (trCount (tree p ds) : Int)) p)) → PartAt CP p K H' a (tree p ds) → Q (.ref a) H'
theorem ok_tree {CP CR : Addr} {p : Int} {f f1 : Addr} {fd fd1 : FuncData} (F : FunD K "tree" "Reckoner.tree" (defArgs sTree) (defBody sTree) (defScope sTree) [] [] f fd) (hT : Meth K CR "tree" f) (hbT : Binds K fd ["self", "items"] []) (MP : MPart P w K mg base CP CR p f1 fd1) (M : Nm mg) (M2 : Nm2 mg) (DRk : Df P w K mg base "rank_of" 1 ["number"] spRank) (hCR : Cls K CR) (nm : NoAttr K CR "made") (np : NoAttr K CR "_p") (hC : Cls K CP)
    (hNo : ∀ f ∈ (["children", "own", "numbers", "rank", "many", "number"] : List Str), NoAttr K CP f) (p1 : 1 < p) (p2 : p ≤ 170141183460469231731687303715884105728) : ∀ k, FnOk P w K mg base CX0 (5 + k) f fd ["self", "items"] (spTree CP CR p K k)
  | 0 => ⟨fun vs H Q E h => h.elim, fun A outer s H args us vs Q E hr e0 hb' r h => h.elim⟩
  | n + 1 => by
    have IH := ok_tree F hT hbT MP M M2 DRk hCR nm np hC hNo p1 p2 n
    refine F.ok scTree (fun vs H Q E h => ?_) (fun cdv A outer s H vs Q E hr h => ?_)
    · obtain ⟨r, dx, li, m, ds, gs, rfl, _⟩ := h
      rfl
    obtain ⟨r, dx, li, m, ds, gs, rfl, ha, ⟨us, hli⟩, hgs, hdd, hkey, zd, hrk, q⟩ := h
    refine ⟨_, PSs.nox (pss_cons (ps_set (i := 2) scTree.nd rfl (Or.inr rfl) (pe_callB (r := rMax K) (cr_max rfl) (by rfl) M2.max (by decide +kernel) (pa_cons (pe_op op_cat (pe_lst (pa_cons pe_int pa_nil)) (pe_lc (own := [("_", 6), ("number", 7)]) (g := gTup K 2 (gCons (gName 6) (gCons (gName 7) gNil))) (tt := tYes) (by rfl) scTree.nd (pi_list (pv 1)) (blkOk_by (N := ["self", "items", "rank", "places", "starts", "children", "_", "number", "at", "item", "start", "end"]) (sc := defScope sTree) (by decide +kernel)) (fun _ _ _ _ _ => (pg_tup rfl (pgs_cons (pg_name (i := 6) scTree.nd rfl (Or.inl rfl)) (pgs_cons (pg_name (i := 7) scTree.nd rfl (Or.inl rfl)) pgs_nil)))) (fun _ _ _ _ _ => pts_nil) (fun _ _ _ _ _ => (pe_df DRk hr (le5 (by decide)) (pa_cons (pv 7) pa_nil))))) pa_nil)))
      (pss_cons (ps_if (pt_cmpR op_eq (pv 2) pe_int (nomark _)) (pss_one (ps_ret (pe_meth (pv 0) hCR MP.m MP.F (hr.mono (le5 (by decide))) MP.hb .nil pass0 (pa_cons (pe_lst pa_nil) (pa_cons (pv 1) pa_nil))))) pss_nil)
      (pss_cons (ps_setLc (i := 3) (own := [("at", 8), ("item", 9)]) (g := gTup K 2 (gCons (gName 8) (gCons (gName 9) gNil))) rfl scTree.nd rfl rfl (sw_true rfl rfl rfl (by decide +kernel)) (pi_enum (by rfl) M2.enumerate (pa_cons (pv 1) pa_nil)) (blkOk_by (N := ["self", "items", "rank", "places", "starts", "children", "_", "number", "at", "item", "start", "end"]) (sc := defScope sTree) (by decide +kernel)) (fun _ _ _ _ _ => (pg_tup rfl (pgs_cons (pg_name (i := 8) scTree.nd rfl (Or.inl rfl)) (pgs_cons (pg_name (i := 9) scTree.nd rfl (Or.inl rfl)) pgs_nil)))) (fun _ _ _ _ _ => pts_one (pt_cmpR op_eq (pe_df DRk hr (le5 (by decide)) (pa_cons (pe_ix (r := rIxT K) ix_tup (pv 9) pe_int (fun _ _ => rfl)) pa_nil)) (pv 2) (nomark _))) (fun _ _ _ _ _ => (pv 8)))
      (pss_cons (ps_set (i := 4) scTree.nd rfl (Or.inl rfl) (pe_op op_cat (pe_lst (pa_cons pe_int pa_nil)) (pe_lc (own := [("at", 8)]) (g := gName 8) (tt := tYes) (by rfl) scTree.nd (pi_list (pv 3)) (blkOk_by (N := ["self", "items", "rank", "places", "starts", "children", "_", "number", "at", "item", "start", "end"]) (sc := defScope sTree) (by decide +kernel)) (fun _ _ _ _ _ => pg_name (i := 8) scTree.nd rfl (Or.inl rfl)) (fun _ _ _ _ _ => pts_nil) (fun _ _ _ _ _ => (pe_op op_add (pv 8) pe_int)))))
      (pss_cons (ps_setLc (i := 5) (own := [("start", 10), ("end", 11)]) (g := gTup K 2 (gCons (gName 10) (gCons (gName 11) gNil))) (tt := tYes) rfl scTree.nd rfl rfl (sw_true rfl rfl rfl (by decide +kernel)) (pi_zip (by rfl) M2.zip (pa_cons (pv 4) (pa_cons (pe_lst (StX.pa_star (pv 3) (pa_cons (pe_callB call_len_seq (by rfl) M.len PySem.boot_len (pa_cons (pv 1) pa_nil)) pa_nil))) pa_nil))) (blkOk_by (N := ["self", "items", "rank", "places", "starts", "children", "_", "number", "at", "item", "start", "end"]) (sc := defScope sTree) (by decide +kernel)) (fun _ _ _ _ _ => (pg_tup rfl (pgs_cons (pg_name (i := 10) scTree.nd rfl (Or.inl rfl)) (pgs_cons (pg_name (i := 11) scTree.nd rfl (Or.inl rfl)) pgs_nil)))) (fun _ _ _ _ _ => pts_nil) (fun _ _ _ _ _ => (pe_meth (pv 0) hCR hT IH hr hbT .nil pass0 (pa_cons (pe_slice (r := rSlL K) sl_list (pv 1) (po_some (pv 10)) (po_some (pv 11))) pa_nil))))
      (pss_one (ps_ret (pe_meth (pv 0) hCR MP.m MP.F (hr.mono (le5 (by decide))) MP.hb .nil pass0 (pa_cons (pv 5) (pa_cons (pe_lc (own := [("at", 8)]) (g := gName 8) (tt := tYes) (by rfl) scTree.nd (pi_list (pv 3)) (blkOk_by (N := ["self", "items", "rank", "places", "starts", "children", "_", "number", "at", "item", "start", "end"]) (sc := defScope sTree) (by decide +kernel)) (fun _ _ _ _ _ => pg_name (i := 8) scTree.nd rfl (Or.inl rfl)) (fun _ _ _ _ _ => pts_nil) (fun _ _ _ _ _ => (pe_ix (r := rIxL K) ix_list (pv 1) (pv 8) (fun _ _ => rfl)))) pa_nil)))))))))), ?_⟩
    refine ⟨by rw [sizeLine_eq]; decide, fun l0 hl0 => ?_⟩
    have n1 : li ≠ r := fun e => by
      rw [e, ha] at hli
      cases hli
    have s0 : Same H (upd H l0 (.lst [V.int 0])) := same_up hl0
    have e0 : upd H l0 (.lst [V.int 0]) l0 = some (.lst [V.int 0]) := upd_same
    generalize upd H l0 (.lst [V.int 0]) = H0 at s0 e0 ⊢
    have kp : keyTs (ds.map (prD p)) = true := prD_keys hkey
    have g0 := dds_kt (kt_same (CP := CP) s0) kp hdd
    have lgs : gs.length = ds.length := by rw [ddAll_len hdd, List.length_map]
    refine ⟨_, rfl, li, rfl, ⟨gs, Same.seq s0 hgs⟩, fun D hD => ?_⟩
    refine lc_list (xs := gs) (fun i H' => Same H0 H' ∧ H' D = some (.lst (((ds.map fun d => (rkP p d : Int)).take i).map V.int))) ⟨same_up hD, upd_same⟩ (fun i H' _ e => Same.seq (Same.trans s0 e.1) hgs) (fun i x H' hx e => ?_) (fun H2 e => ?_)
    · obtain ⟨s2, hy⟩ := e
      obtain ⟨T, xv, d, rfl, hdi, hT, hx'⟩ := pair_at g0 hx
      refine ⟨T, _, rfl, (hT.same s2).sq, rfl, xv, _, rfl, .int (nmF p d), [], rfl, rfl, rfl, _, rfl, nmF p d, rfl, _, hy, ?_, same_updN s2 hD, ?_⟩
      · rw [List.length_map, List.length_take, List.length_map, sizeLine_eq]
        omega
      · rw [upd_same, take_snoc (xs := ds.map fun d => (rkP p d : Int)) (x := (rkP p d : Int)) (by rw [List.getElem?_map, hdi]; rfl), List.map_append]
        rfl
    obtain ⟨s2, hy⟩ := e
    rw [List.take_of_length_le (by rw [List.length_map]; omega)] at hy
    refine ⟨l0, D, _, _, rfl, rfl, s2 _ _ e0, hy, by simp [sizeLine_eq]; omega, fun l1 hl1 => ?_⟩
    have s3 := Same.trans (Same.trans s0 s2) (same_up (o := .lst ([V.int 0] ++ (ds.map fun d => (rkP p d : Int)).map V.int)) hl1)
    have e3 : upd H2 l1 (.lst ([V.int 0] ++ (ds.map fun d => (rkP p d : Int)).map V.int)) l1 = some (.lst ((0 :: ds.map fun d => (rkP p d : Int)).map V.int)) := upd_same
    generalize upd H2 l1 (.lst ([V.int 0] ++ (ds.map fun d => (rkP p d : Int)).map V.int)) = H3 at s3 e3 ⊢
    refine ⟨l1, _, rfl, SqL.of e3, by simp, fun mx hm1 hm2 => ?_⟩
    obtain ⟨t, rfl, ht1, ht2⟩ : ∃ t : Nat, mx = (t : Int) ∧ (t ≠ 0 → ∃ d ∈ ds, rkP p d = t) ∧ ∀ d ∈ ds, rkP p d ≤ t := by
      have h2 : ∀ d ∈ ds, (rkP p d : Int) ≤ mx := fun d hd => hm2 _ (List.mem_cons_of_mem _ (List.mem_map.mpr ⟨d, hd, rfl⟩))
      rcases List.mem_cons.mp hm1 with rfl | h1
      · exact ⟨0, rfl, fun h => absurd rfl h, fun d hd => by have := h2 d hd; omega⟩
      · obtain ⟨d, hd, rfl⟩ := List.mem_map.mp h1
        exact ⟨_, rfl, fun _ => ⟨d, hd, rfl⟩, fun e he => by have := h2 e he; omega⟩
    clear hm1 hm2 e0 e3 hl0 hl1 hD hy g0
    have a3 := s3 _ _ ha
    have g3 := dds_kt (kt_same (CP := CP) s3) kp hdd
    have q3 := Same.seq s3 hgs
    have k3 : Keep r H H3 := keepS s3
    refine ⟨_, rfl, rfl, _, rfl, tst (fun e1 => ?_) fun e1 => ?_⟩
    · obtain rfl : t = 0 := by
        have := of_decide_eq_true e1
        simpa using this
      have e : tree p ds = .mk [] ds := tree_leaf fun d hd => by
        have := ht2 d hd
        omega
      refine ⟨.ref r, rfl, r, dx, _, rfl, a3, rfl, by simp [sizeLine_eq], fun l2 hl2 => ⟨_, rfl, ?_⟩⟩
      have s4 := Same.trans s3 (same_up (o := .lst []) hl2)
      refine ⟨r, dx, l2, li, m, [], [], ds, gs, rfl, s4 _ _ ha, hCR, nm, np, hC, hNo, ⟨_, upd_same⟩, ⟨us, s4 _ _ hli⟩, SqL.of upd_same, by unfold PartsAt; rfl, Same.seq s4 hgs, dds_kt (kt_same (CP := CP) s4) kp hdd, hkey, by omega, by simp, fun e => by simp at e, p1, p2, (fun t ht => nomatch ht), fun H' a k' hn hr' part => ?_⟩
      rw [e] at q
      have k4 : Keep r H H' := (keepS s4).trans k'
      refine q H' a k4 (none_keep (keepS s4) (s4 _ _ ha) hn) ?_ part
      rw [hr']
      simp [trCount, trCounts]
    · have t0 : t ≠ 0 := fun e => by
        subst e
        cases e1
      obtain ⟨t', rfl⟩ : ∃ t', t = t' + 1 := ⟨t - 1, by omega⟩
      obtain ⟨dm, hdm, edm⟩ := ht1 t0
      obtain ⟨n', rfl⟩ : ∃ n', n = n' + 1 := ⟨n - 1, by have := hrk dm hdm; omega⟩
      have t6 : t' + 1 ≤ 6 := by
        rw [← edm]
        exact rkI_le _
      have et := tree_node (p := p) ht2 ⟨dm, hdm, edm⟩ t6
      have ene : owns (fun d => rkP p d == t' + 1) ds ≠ [] := fun e => by
        rw [owns_filter, List.filter_eq_nil_iff] at e
        exact e dm hdm (by rw [edm]; exact beq_self_eq_true _)
      have hQ : ∀ d, (fun d => rkP p d == t' + 1) d = decide (V.int (rkI (nmF p d) : Int) = V.int ((t' + 1 : Nat) : Int)) := fun d => by
        show (rkI (nmF p d) == t' + 1) = _
        by_cases h : rkI (nmF p d) = t' + 1
        · rw [h]
          simp
        · rw [beq_eq_false_iff_ne.mpr h, decide_eq_false]
          intro e
          injection e with e
          omega
      have hle := ht2
      generalize hq : (fun d => rkP p d == t' + 1) = Q1 at et ene hQ
      have hin : ∀ l ∈ pieces Q1 ds, (∀ d ∈ l, rkP p d ≤ t') ∧ keyTs l = true := fun l hl => by
        refine ⟨fun d hd => ?_, ?_⟩
        · obtain ⟨h1, h2⟩ := pieces_in hl d hd
          have h3 := hle d h1
          rw [← hq] at h2
          have := beq_eq_false_iff_ne.mp h2
          omega
        · refine keyTs_all.mpr fun d hd => ?_
          exact keyTs_mem hkey (pieces_in hl d hd).1
      have hok : keyTs (owns Q1 ds) = true := keyTs_all.mpr fun d hd => keyTs_mem hkey (owns_in d hd).1
      have tn : t' ≤ n' := by
        have := hrk dm hdm
        omega
      refine ⟨_, rfl, li, gs, rfl, q3, fun Dp hDp => ?_⟩
      refine lc_it (walk_enum (K := K) (a := li) (xs := gs)) (fun i H' => Same H3 H' ∧ H' Dp = some (.lst ((places Q1 (ds.take i)).map fun e : Nat => V.int (e : Int)))) ⟨same_up hDp, upd_same⟩ (fun i H' _ e => Same.seq e.1 q3) (fun i x H4 H' hi e y => ?_) (fun H4 e => ?_)
      · obtain ⟨s4, hy⟩ := e
        obtain ⟨T, x1, y1, rfl, hT, rfl, ex, ey⟩ := y
        cases ex
        have s5 : Same H3 (upd H4 T (.tup [V.int (i : Nat), y1])) := Same.trans s4 (same_up hT)
        obtain ⟨T2, xv, d, rfl, hdi, hT2, hx'⟩ := pair_at g3 ey
        refine ⟨T, _, rfl, .inl (.inl upd_same), rfl, .int (i : Nat), [.ref T2], rfl, .ref T2, [], rfl, rfl, rfl, ?_⟩
        refine ⟨.ref T2, rfl, T2, [xv, .int (nmF p d)], 1, .int (nmF p d), rfl, rfl, (hT2.same s5).sq, rfl, nmF p d, rfl, _, rfl, rfl, _, rfl, ?_⟩
        rw [← hQ d, places_snoc Q1 hdi]
        have hy5 : upd H4 T (.tup [V.int (i : Nat), .ref T2]) Dp = some (.lst ((places Q1 (ds.take i)).map fun e : Nat => V.int (e : Int))) := same_up hT _ _ hy
        cases hq1 : Q1 d with
        | true =>
          rw [if_pos rfl]
          refine ⟨_, rfl, _, hy5, ?_, same_updN s5 hDp, ?_⟩
          · have := places_len_le Q1 (ds.take i)
            rw [List.length_take] at this
            rw [List.length_map, sizeLine_eq]
            omega
          · rw [upd_same, List.map_append]
            rfl
        | false =>
          rw [if_neg Bool.false_ne_true]
          refine ⟨s5, ?_⟩
          rw [hy5]
          simp
      obtain ⟨s4, hy⟩ := e
      rw [List.take_of_length_le (by omega)] at hy
      have zp := places_len_le Q1 ds
      refine ⟨by rw [sizeLine_eq]; decide, fun l2 hl2 => ?_⟩
      have s5 : Same H3 (upd H4 l2 (.lst [V.int 0])) := Same.trans s4 (same_up hl2)
      have hy5 : upd H4 l2 (.lst [V.int 0]) Dp = some (.lst ((places Q1 ds).map fun e : Nat => V.int (e : Int))) := same_up hl2 _ _ hy
      have e5 : upd H4 l2 (.lst [V.int 0]) l2 = some (.lst [V.int 0]) := upd_same
      generalize upd H4 l2 (.lst [V.int 0]) = H5 at s5 hy5 e5 ⊢
      refine ⟨_, rfl, Dp, rfl, ⟨_, SqL.of hy5⟩, fun D2 hD2 => ?_⟩
      refine lc_list (xs := (places Q1 ds).map fun e : Nat => V.int (e : Int)) (fun i H' => Same H5 H' ∧ H' D2 = some (.lst ((((places Q1 ds).map (· + 1)).take i).map fun e : Nat => V.int (e : Int)))) ⟨same_up hD2, upd_same⟩ (fun i H' _ e => Same.seq e.1 (SqL.of hy5)) (fun i x H' hx e => ?_) (fun H6 e => ?_)
      · obtain ⟨s6, hd⟩ := e
        rw [List.getElem?_map] at hx
        obtain ⟨e, he, rfl⟩ := Option.map_eq_some_iff.mp hx
        refine ⟨rfl, _, rfl, _, _, rfl, rfl, _, hd, ?_, same_updN s6 hD2, ?_⟩
        · rw [List.length_map, List.length_take, List.length_map, sizeLine_eq]
          omega
        · rw [upd_same, take_snoc (xs := (places Q1 ds).map (· + 1)) (x := e + 1) (by rw [List.getElem?_map, he]; rfl), List.map_append]
          rfl
      obtain ⟨s6, hd6⟩ := e
      rw [List.take_of_length_le (by rw [List.length_map, List.length_map]; exact Nat.le_refl _)] at hd6
      refine ⟨l2, D2, _, _, rfl, rfl, s6 _ _ e5, hd6, by simp [sizeLine_eq]; omega, fun l3 hl3 => ?_⟩
      have s7 := Same.trans s6 (same_up (o := .lst ([V.int 0] ++ ((places Q1 ds).map (· + 1)).map fun e : Nat => V.int (e : Int))) hl3)
      have e7 : upd H6 l3 (.lst ([V.int 0] ++ ((places Q1 ds).map (· + 1)).map fun e : Nat => V.int (e : Int))) l3 = some (.lst ((0 :: (places Q1 ds).map (· + 1)).map fun e : Nat => V.int (e : Int))) := upd_same
      generalize upd H6 l3 (.lst ([V.int 0] ++ ((places Q1 ds).map (· + 1)).map fun e : Nat => V.int (e : Int))) = H7 at s7 e7 ⊢
      have hy7 := s7 _ _ hy5
      have s37 := Same.trans s5 s7
      clear e5 hd6 hl3 hD2 hy hy5 hl2 hDp s6 s4 s5 s7
      refine ⟨_, rfl, _, rfl, Dp, _, rfl, .inr (SqL.of hy7), _, rfl, li, gs, rfl, .inl (Same.seq s37 q3), by simp [sizeLine_eq]; omega, fun l4 hl4 => ?_⟩
      have s8 : Same H3 (upd H7 l4 (.lst ((places Q1 ds).map (fun e : Nat => V.int (e : Int)) ++ [V.int (gs.length : Int)]))) := Same.trans s37 (same_up hl4)
      have e8 : upd H7 l4 (.lst ((places Q1 ds).map (fun e : Nat => V.int (e : Int)) ++ [V.int (gs.length : Int)])) l4 = some (.lst ((places Q1 ds ++ [ds.length]).map fun e : Nat => V.int (e : Int))) := by
        rw [upd_same, List.map_append, lgs]
        rfl
      have e8' : upd H7 l4 (.lst ((places Q1 ds).map (fun e : Nat => V.int (e : Int)) ++ [V.int (gs.length : Int)])) l3 = some (.lst ((0 :: (places Q1 ds).map (· + 1)).map fun e : Nat => V.int (e : Int))) := same_up hl4 _ _ e7
      have hy8 : upd H7 l4 (.lst ((places Q1 ds).map (fun e : Nat => V.int (e : Int)) ++ [V.int (gs.length : Int)])) Dp = some (.lst ((places Q1 ds).map fun e : Nat => V.int (e : Int))) := same_up hl4 _ _ hy7
      generalize upd H7 l4 (.lst ((places Q1 ds).map (fun e : Nat => V.int (e : Int)) ++ [V.int (gs.length : Int)])) = H8 at s8 e8 e8' hy8 ⊢
      have a8 := s8 _ _ a3
      have ne3 : l3 ≠ r := fun e => by
        rw [e, a8] at e8'
        cases e8'
      have ne4 : l4 ≠ r := fun e => by
        rw [e, a8] at e8
        cases e8
      have neP : Dp ≠ r := fun e => by
        rw [e, a8] at hy8
        cases hy8
      have li8 := s8 _ _ (s3 _ _ hli)
      have g8 := dds_kt (kt_same (CP := CP) s8) kp g3
      have q8 := Same.seq s8 q3
      refine ⟨l3, l4, _, _, rfl, SqL.of e8', SqL.of e8, fun D5 hD5 => ?_⟩
      have d5r : D5 ≠ r := fun e => by
        rw [e, a8] at hD5
        cases hD5
      refine lc_it (walk_zip (K := K) (a := l3) (b := l4) (n := (places Q1 ds).length + 1) (by simp)) (fun i H' => Keep r H8 H' ∧ H' r = some (.ins CR dx (recF (m + (trCounts (((pieces Q1 ds).map (tree p)).take i) : Int)) p)) ∧ ∃ ks : List Addr, H' D5 = some (.lst (ks.map V.ref)) ∧ PartsAt CP p K H' ks (((pieces Q1 ds).map (tree p)).take i)) ⟨Keep.new .refl hD5, ?_, [], upd_same, by unfold PartsAt; rfl⟩ (fun i H' _ e => ⟨SqL.keep e.1 ne3 (SqL.of e8'), SqL.keep e.1 ne4 (SqL.of e8)⟩) (fun i x H9 H' hi e y => ?_) (fun H9 e => ?_)
      · rw [upd_ne (ne_of_none a8 hD5), a8]
        simp [trCounts]
      · obtain ⟨k9, r9, ks, h9, P9⟩ := e
        obtain ⟨T, x1, y1, rfl, hTn, rfl, ex, ey⟩ := y
        dsimp only at ex ey
        rw [List.getElem?_map] at ex ey
        obtain ⟨st, hst, rfl⟩ := Option.map_eq_some_iff.mp ex
        obtain ⟨en, hen, rfl⟩ := Option.map_eq_some_iff.mp ey
        obtain ⟨hp, z1, z2⟩ := pieces_at hst hen
        have sT : Same H9 (upd H9 T (.tup [V.int (st : Int), V.int (en : Int)])) := same_up hTn
        refine ⟨T, _, rfl, .inl (.inl upd_same), rfl, _, _, rfl, _, [], rfl, rfl, rfl, ?_⟩
        have kT := k9.trans (keepS sT)
        refine ⟨.ref r, rfl, r, dx, _, rfl, sT _ _ r9, rfl, _, rfl, _, rfl, (st : Int), rfl, _, rfl, (en : Int), rfl, li, gs, rfl, SqL.keep kT n1 q8, fun l hl => ?_⟩
        have ec : cutV gs (some (st : Int)) (some (en : Int)) = (gs.drop st).take (en - st) := by
          unfold cutV
          rw [HT.sIx_nat, HT.sIx_nat, lgs, Nat.min_eq_left z1, Nat.min_eq_left z2]
        rw [ec]
        have sl := Same.trans sT (same_up (o := .lst ((gs.drop st).take (en - st))) hl)
        have kl := k9.trans (keepS sl)
        have ktl : Kt CP H8 (upd (upd H9 T (.tup [V.int (st : Int), V.int (en : Int)])) l (.lst ((gs.drop st).take (en - st)))) := kt_keep a8 rec_not kl
        have gl : DdAll K (upd (upd H9 T (.tup [V.int (st : Int), V.int (en : Int)])) l (.lst ((gs.drop st).take (en - st)))) ((gs.drop st).take (en - st)) ((slc ds st en).map (prD p)) := by
          have h := ddAll_take (en - st) (ddAll_drop st (dds_kt ktl kp g8))
          rw [← List.map_drop, ← List.map_take] at h
          exact h
        have hm := List.mem_of_getElem? hp
        refine ⟨r, dx, l, _, slc ds st en, _, rfl, sl _ _ r9, ⟨_, upd_same⟩, SqL.of upd_same, gl, (hin _ hm).2, Nat.le_trans (piece_len hm) zd, fun d hd => Nat.le_trans ((hin _ hm).1 d hd) tn, fun H' a k' hn hr' part => ?_⟩
        have e1 : ((pieces Q1 ds).map (tree p))[i]? = some (tree p (slc ds st en)) := by
          rw [List.getElem?_map, hp]
          rfl
        have kk := kl.trans k'
        have k9' : Keep r H9 H' := (keepS sl).trans k'
        have lks := parts_len P9
        rw [List.length_take] at lks
        refine ⟨ks.map V.ref, k9' _ _ d5r h9, ?_, Keep.new kk hD5, ?_, ks ++ [a], ?_, ?_⟩
        · rw [List.length_map, sizeLine_eq]
          omega
        · rw [upd_ne (Ne.symm d5r), hr', take_snoc e1, trCounts_snoc]
          congr 3
          omega
        · rw [upd_same, List.map_append]
          rfl
        · rw [take_snoc e1]
          have h5 : H' D5 = some (.lst (ks.map V.ref)) := k9' _ _ d5r h9
          have kD : Kt CP H' (upd H' D5 (.lst (ks.map V.ref ++ [V.ref a]))) := kt_upd h5 (fun e => e)
          exact parts_app ((P9.kt (kt_keep r9 rec_not k9')).kt kD) (by unfold PartsAt; exact ⟨a, [], rfl, part.kt kD, by unfold PartsAt; rfl⟩)
      · obtain ⟨k9, r9, ks, h9, P9⟩ := e
        rw [List.take_of_length_le (by rw [List.length_map, pieces_len]; exact Nat.le_refl _)] at r9 P9
        have kt9 : Kt CP H8 H9 := kt_keep a8 rec_not k9
        have g9 := dds_kt kt9 kp g8
        have q9 := SqL.keep k9 n1 q8
        have hy9 := k9 _ _ neP hy8
        refine ⟨.ref r, rfl, r, dx, _, rfl, r9, rfl, _, rfl, _, rfl, Dp, rfl, ⟨_, SqL.of hy9⟩, fun D6 hD6 => ?_⟩
        refine lc_list (xs := (places Q1 ds).map fun e : Nat => V.int (e : Int)) (fun i H' => Same H9 H' ∧ ∃ ys, H' D6 = some (.lst ys) ∧ DdAll K H9 ys (((owns Q1 ds).map (prD p)).take i)) ⟨same_up hD6, [], upd_same, .nil⟩ (fun i H' _ e => Same.seq e.1 (SqL.of hy9)) (fun i x H' hx e => ?_) (fun H10 e => ?_)
        · obtain ⟨s10, ys, hys, hd⟩ := e
          rw [List.getElem?_map] at hx
          obtain ⟨e, he, rfl⟩ := Option.map_eq_some_iff.mp hx
          obtain ⟨d, hd1, hd2⟩ := places_at he
          have hge : ∃ g, gs[e]? = some g := by
            have := places_le (List.mem_of_getElem? he)
            exact ⟨gs[e], List.getElem?_eq_getElem (by omega)⟩
          obtain ⟨g, hg⟩ := hge
          obtain ⟨dd, hdd1, hdd2⟩ := dall_at' g9 hg
          have edd : dd = prD p d := by
            rw [List.getElem?_map, hd1] at hdd1
            cases hdd1
            rfl
          subst edd
          refine ⟨rfl, _, rfl, _, rfl, li, gs, (e : Int), g, rfl, rfl, Same.seq s10 q9, atI_nat hg, _, hys, ?_, same_updN s10 hD6, _, upd_same, ?_⟩
          · have h1 := ddAll_len hd
            have h2 := places_len Q1 ds
            rw [List.length_take, List.length_map] at h1
            rw [sizeLine_eq]
            omega
          · rw [take_snoc (xs := (owns Q1 ds).map (prD p)) (x := prD p d) (by rw [List.getElem?_map, hd2]; rfl)]
            exact ddAll_snoc hd hdd2
        obtain ⟨s10, ys, hys, hd⟩ := e
        rw [List.take_of_length_le (by rw [List.length_map, List.length_map, places_len]; exact Nat.le_refl _)] at hd
        have h2 := places_len Q1 ds
        refine ⟨r, dx, D5, D6, _, ks, (pieces Q1 ds).map (tree p), owns Q1 ds, ys, rfl, s10 _ _ r9, hCR, nm, np, hC, hNo, ⟨_, s10 _ _ h9⟩, ⟨_, hys⟩, SqL.of (s10 _ _ h9), P9.kt (kt_same s10), SqL.of hys, dds_kt (kt_same (CP := CP) s10) (prD_keys hok) hd, hok, by omega, by rw [List.length_map, pieces_len]; omega, fun _ => ene, p1, p2, kids_small p1 p2 (by omega), fun H' a k' hn hr' part => ?_⟩
        have k8 : Keep r H H8 := k3.trans (keepS s8)
        have k10 : Keep r H H10 := k8.trans (k9.trans (keepS s10))
        refine q H' a (k10.trans k') (none_keep k10 (s10 _ _ r9) hn) ?_ (by rw [et]; exact part)
        rw [hr', et]
        unfold trCount
        congr 3
        omega
end
end Sm
/-! == by an own __eq__ that says yes or no; == of tuples of keys. -/
namespace L2
open PySem PySem.Spec PyProof.Rows
/-- x == y: x of the class at C, y of any type that is known and not below C -/
def rOwnE (K : PySem.W.Frag) (C : Addr) (sp : Sp) (E : XK) : R2 := fun x y H Q => ∃ (a dx : Addr) (fs : List (Str × V)) (t : Value), x = .ref a ∧ H a = some (.ins C dx fs) ∧ TyX K H y t ∧ PySem.W.notFirst K C t = true ∧ sp [x, y] H Q E
theorem op_ownE {X : Cx} {CX : CXT} {n : Nat} {C f : Addr} {fd : FuncData} {ps : List Str} {sp : Sp} {E : XK} (F : FnOk X.prog X.w X.K X.mg X.base CX n f fd ps sp) (hs : PySem.W.findIn X.K (.ref C) "__eq__" = some (some (.ref f))) (hf : PySem.W.isFn X.K (.ref f) = true) (hb : Binds X.K fd ps []) (hr : Room n X.A) (hx : Passes CX X E) : OpR X (compareOp .Eq) (rOwnE X.K C sp E) := by
  intro pins s σ H x y v u Q I rx ry h
  obtain ⟨a, dx, fs, t, rfl, ha, ty, hn, q⟩ := h
  cases (show v = Value.ref a from rx)
  obtain ⟨mA, J, _⟩ := ins_get I.hok ha
  obtain ⟨od, J, _⟩ := J.look
  obtain ⟨P, kx, hP, _⟩ := kit_of I ry ty
  obtain ⟨m, hF⟩ := I.fr
  show wpAny _ _ (richCompare .Eq (.ref a) u) _ _ s
  refine PySem.W.cmp_K (op := .Eq) (tb := t) hr.units0 hF I.ok.mod.kin J (kx.ty _ _ I.kIn hP) hn hs hf ?_
  refine wpAny_mono (run_fn (us := [.ref a, u]) (vs := [.ref a, y]) F hr hb .nil hx I (.cons rfl (.cons ry .nil)) q) (fun w s' z => ?_) fun _ _ x => x
  obtain ⟨z', H', I', rz, qz⟩ := z
  exact SlX.cmpback rz ⟨z', H', I', rz, qz⟩
end L2
namespace Sm
open PySem PySem.Spec PyProof.Rows L2 Vd
section
variable {X : Cx}
def rEqT (K : PySem.W.Frag) : R2 := fun x y H Q => ∃ ds es, Dd K H x (.tuple ds) ∧ Dd K H y (.tuple es) ∧ keyTs ds = true ∧ keyTs es = true ∧ dpDs ds ≤ 60 ∧ dpDs es ≤ 60 ∧ Q (.bl (eqDs ds es)) H
theorem op_eqT (hr : X.A.units + 64 < cLine) : OpR X (compareOp .Eq) (rEqT X.K) := by
  intro pins s σ H x y v u Q I rx ry h
  obtain ⟨ds, es, hd, he, kd, ke, l1, l2, q⟩ := h
  cases hd with
  | @tup p xs _ h1 h2 =>
    cases he with
    | @tup p2 ys _ g1 g2 =>
      cases rx
      cases ry
      obtain ⟨its, r, pl, _⟩ := I.tuple (TupN.sq (K := X.K) h1)
      obtain ⟨its2, r2, pl2, _⟩ := I.tuple (TupN.sq (K := X.K) g1)
      have n1 : its.length = ds.length := by rw [← r.length]; exact dall_len h2
      have n2 : its2.length = es.length := by rw [← r2.length]; exact dall_len g2
      have key := SeqAt.RcAt.tuples (A := X.A) (e := eqI ds es) pl pl2 (by omega) (fun j j1 j2 => by
        have z := eas_run I (A := X.A.in1) kd ke h2 g2 r r2 (by show X.A.units + 1 + dpDs ds < cLine; omega) (by show X.A.units + 1 + dpDs es < cLine; omega) j (by simpa using j1) (by simpa using j2)
        simpa using z)
      rw [List.size_toArray, List.size_toArray, n1, n2, eqI_all] at key
      exact key _ _ _ _ ⟨.bl _, H, I, rfl, q⟩
/-- tuples of facts are keys of little depth -/
theorem fact_dp {d : PyData} (o : okD d = true) (h : factD d = true) : keyT d = true ∧ dpD d ≤ 8 := by
  refine ⟨(fact_key o h).2, ?_⟩
  obtain ⟨n, ws, rfl, _, _, hw⟩ := fact_row o h
  have key : ∀ l : List PyData, (∀ x ∈ l, WorthK x) → dpDs l ≤ 3 := fun l => by
    induction l with
    | nil => intro _; simp [dpDs]
    | cons y r ih =>
      intro hl
      have h1 := ih fun z hz => hl z (List.mem_cons_of_mem _ hz)
      unfold dpDs
      rcases hl y List.mem_cons_self with ⟨i, rfl⟩ | ⟨x, rfl⟩ <;> simp [dpD] <;> omega
  have := key ws hw
  simp [dpD, dpDs]
  omega
theorem facts_dp : ∀ {ds : List PyData}, (∀ d ∈ ds, okD d = true ∧ factD d = true) → keyTs ds = true ∧ dpDs ds ≤ 60
  | [], _ => ⟨rfl, by simp [dpDs]⟩
  | d :: r, h => by
    obtain ⟨h1, h2⟩ := facts_dp fun x hx => h x (List.mem_cons_of_mem _ hx)
    obtain ⟨g1, g2⟩ := fact_dp (h d List.mem_cons_self).1 (h d List.mem_cons_self).2
    unfold keyTs dpDs
    rw [g1, h1]
    refine ⟨rfl, ?_⟩
    omega
end
end Sm
/-! Reckoner.__init__, Tree.__init__, made, Tree.__eq__. -/
namespace Sm
open PySem PySem.Spec PyProof.Rows L2 Vd RZ
section
variable {P : Program} {w : World} {K : PySem.W.Frag} {mg : Str → Option Value} {base : Heap}
theorem scRInit : FnScope ["self", "p"] ["self", "p"] (defScope sRInit) := ⟨rfl, rfl, rfl, by decide +kernel, rfl, by decide +kernel, by decide +kernel⟩
theorem scTInit : FnScope ["self", "p", "facts", "reckoner", "fact"] ["self", "p", "facts"] (defScope sTInit) := ⟨rfl, rfl, rfl, by decide +kernel, rfl, by decide +kernel, by decide +kernel⟩
def spRInit (CR : Addr) (K : PySem.W.Frag) : Sp := fun vs H Q _ => ∃ (r dx : Addr) (p : Int), vs = [.ref r, .int p] ∧ H r = some (.ins CR dx []) ∧ Cls K CR ∧ NoAttr K CR "made" ∧ NoAttr K CR "_p" ∧ ∀ H', Keep r H H' → H' r = some (.ins CR dx (recF 0 p)) → Q .non H'
theorem ok_rinit {CR : Addr} {f : Addr} {fd : FuncData} (F : FunD K "__init__" "Reckoner.__init__" (defArgs sRInit) (defBody sRInit) (defScope sRInit) [] [] f fd) : FnOk P w K mg base CX0 1 f fd ["self", "p"] (spRInit CR K) := by
  refine F.ok scRInit (fun vs H Q E h => ?_) (fun cdv A outer s H vs Q E hr h => ?_)
  · obtain ⟨r, dx, p, rfl, _⟩ := h
    rfl
  obtain ⟨r, dx, p, rfl, ha, hCR, nm, np, q⟩ := h
  refine ⟨_, PSs.nox (pss_cons (ps_fld (pv 0) pe_int (by rfl))
      (pss_one (ps_fld (pv 0) (pv 1) (by rfl)))), ?_⟩
  exact ⟨.ref r, rfl, r, CR, dx, _, rfl, ha, hCR, nm, by decide, _, rfl, .ref r, rfl, r, CR, dx, _, rfl, upd_same, hCR, np, by decide, q _ ((Keep.refl.upd).upd) upd_same⟩
theorem ok_pr {p : Int} (p0 : 1000 ≤ p) (p2 : p ≤ 170141183460469231731687303715884105728) : okD (.int p) = true := decide_eq_true (show p.natAbs < 2 ^ 200 by omega)
structure RMk (P : Program) (w : World) (K : PySem.W.Frag) (mg : Str → Option Value) (base : Heap) (CR f : Addr) (fd : FuncData) : Prop where
  M : Mk K CR f
  F : FnOk P w K mg base CX0 1 f fd ["self", "p"] (spRInit CR K)
  hm : mg "Reckoner" = some (.ref CR)
  hb : Binds K fd ["self", "p"] []
structure MItem (P : Program) (w : World) (K : PySem.W.Frag) (mg : Str → Option Value) (base : Heap) (CR f : Addr) (fd : FuncData) : Prop where
  m : Meth K CR "item" f
  F : ∀ p, FnOk P w K mg base CX0 3 f fd ["self", "fact"] (spItem CR p K)
  hb : Binds K fd ["self", "fact"] []
structure MTree (P : Program) (w : World) (K : PySem.W.Frag) (mg : Str → Option Value) (base : Heap) (CP CR f : Addr) (fd : FuncData) : Prop where
  m : Meth K CR "tree" f
  F : ∀ (p : Int) (k : Nat), 1 < p → p ≤ 170141183460469231731687303715884105728 → FnOk P w K mg base CX0 (5 + k) f fd ["self", "items"] (spTree CP CR p K k)
  hb : Binds K fd ["self", "items"] []
/-- the fields of a Tree -/
def tfF (a : Addr) (c p : Int) (v : V) (m n : Int) : List (Str × V) := [("_top", .ref a), ("_many_made", .int c), ("p", .int p), ("facts", v), ("many", .int m), ("number", .int n)]
def TreeAt (CP CT : Addr) (p : Int) (K : PySem.W.Frag) (H : Hp) (T : Addr) (v : V) (ds : List PyData) : Prop := ∃ dx a, H T = some (.ins CT dx (tfF a (trCount (tree p ds) : Int) p v (trMany (tree p ds) : Int) (trNum p (tree p ds)))) ∧ PartAt CP p K H a (tree p ds) ∧ Dd K H v (.tuple ds)
theorem part_get {CP : Addr} {p : Int} {H : Hp} {a : Addr} : ∀ {t : Tr}, PartAt CP p K H a t → (∀ n m, t ≠ .cut n m) → ∃ (dx : Addr) (fs : List (Str × V)), H a = some (.ins CP dx fs) ∧ fs.lookup ("many" : Str) = some (V.int (trMany t : Int)) ∧ fs.lookup ("number" : Str) = some (V.int (trNum p t))
  | .cut _ _, h, e => absurd rfl (e _ _)
  | .mk cs own, h, _ => by
    unfold PartAt at h
    obtain ⟨_, dx, c, o, n, ks, h1, _⟩ := h
    exact ⟨dx, _, h1, rfl, rfl⟩
theorem tree_nc (p : Int) (ds : List PyData) : ∀ n m, tree p ds ≠ .cut n m := fun n m e => by
  obtain ⟨cs, own, k⟩ := treeF_mk p 6 ds
  have k : tree p ds = .mk cs own := k
  rw [k] at e
  cases e
theorem ins_step {CP t CT dx : Addr} {fs : List (Str × V)} {H : Hp} {u : HO} (ht : H t = some (.ins CT dx fs)) (hl : fs.length ≠ 6) (hk : (fs.headD (("_top" : Str), V.non)).1 = ("_top" : Str) := by rfl) : Kt CP H (upd H t u) := kt_upd ht fun e => e.elim (fun e => hl e.2) fun ⟨n, m, e⟩ => by
  subst e
  exact absurd (show ("number" : Str) = "_top" from hk) (by decide)
def spTInit (CP CT : Addr) (K : PySem.W.Frag) : Sp := fun vs H Q _ => ∃ (t dx : Addr) (p : Int) (v : V) (ds : List PyData), vs = [.ref t, .int p, v] ∧ H t = some (.ins CT dx []) ∧ Dd K H v (.tuple ds) ∧ FactsK ds ∧ ds.length ≤ 3000 ∧ 1000 ≤ p ∧ p ≤ 170141183460469231731687303715884105728 ∧
  ∀ H' a, Keep t H H' → H' t = some (.ins CT dx (tfF a (trCount (tree p ds) : Int) p v (trMany (tree p ds) : Int) (trNum p (tree p ds)))) → PartAt CP p K H' a (tree p ds) → Q .non H'
theorem ok_tinit {CP CT CR f f1 f2 f3 : Addr} {fd fd1 fd2 fd3 : FuncData} (F : FunD K "__init__" "Tree.__init__" (defArgs sTInit) (defBody sTInit) (defScope sTInit) [] [] f fd) (M : Nm mg) (DCP : Df P w K mg base "check_prime" 3 ["thing"] (spCkP K)) (DCF : Df P w K mg base "check_facts" 5 ["thing"] (spCkF K)) (RM : RMk P w K mg base CR f1 fd1) (MI : MItem P w K mg base CR f2 fd2) (MT : MTree P w K mg base CP CR f3 fd3)
    (hCR : Cls K CR) (nm : NoAttr K CR "made") (np : NoAttr K CR "_p") (hC : Cls K CP) (nu : NoAttr K CP "number") (nM : NoAttr K CP "many") (hCT : Cls K CT) (hNo : ∀ f ∈ (["_top", "_many_made", "p", "facts", "many", "number"] : List Str), NoAttr K CT f) : FnOk P w K mg base CX0 13 f fd ["self", "p", "facts"] (spTInit CP CT K) := by
  refine F.ok scTInit (fun vs H Q E h => ?_) (fun cdv A outer s H vs Q E hr h => ?_)
  · obtain ⟨t, dx, p, v, ds, rfl, _⟩ := h
    rfl
  obtain ⟨t, dx, p, v, ds, rfl, ha, hv, hF, zd, p0, p2, q⟩ := h
  have p1 : 1 < p := by omega
  refine ⟨_, PSs.nox (pss_cons (ps_expr (pe_df DCP hr (by decide) (pa_cons (pv 1) pa_nil)))
      (pss_cons (ps_expr (pe_df DCF hr (by decide) (pa_cons (pv 2) pa_nil)))
      (pss_cons (ps_set (i := 3) scTInit.nd rfl (Or.inr rfl) (pe_make RM.M RM.F (hr.mono (by decide)) (by rfl) RM.hm RM.hb .nil pass0 (pa_cons (pv 1) pa_nil)))
      (pss_cons (ps_fld (pv 0) (pe_meth (pv 3) hCR MT.m (MT.F p 7 p1 p2) hr MT.hb .nil pass0 (pa_cons (pe_lc (own := [("fact", 4)]) (g := gName 4) (tt := tYes) (by rfl) scTInit.nd (pi_tup (pv 2)) (blkOk_by (N := ["self", "p", "facts", "reckoner", "fact"]) (sc := defScope sTInit) (by decide +kernel)) (fun _ _ _ _ _ => pg_name (i := 4) scTInit.nd rfl (Or.inl rfl)) (fun _ _ _ _ _ => pts_nil) (fun _ _ _ _ _ => (pe_meth (pv 3) hCR MI.m (MI.F p) (hr.mono (by decide)) MI.hb .nil pass0 (pa_cons (pv 4) pa_nil)))) pa_nil)) (by rfl))
      (pss_cons (ps_fld (pv 0) (pe_fld (pv 3) (by rfl)) (by rfl))
      (pss_cons (ps_fld (pv 0) (pv 1) (by rfl))
      (pss_cons (ps_fld (pv 0) (pv 2) (by rfl))
      (pss_cons (ps_fld (pv 0) (pe_fld (pe_fld (pv 0) (by rfl)) (by rfl)) (by rfl))
      (pss_one (ps_fld (pv 0) (pe_fld (pe_fld (pv 0) (by rfl)) (by rfl)) (by rfl))))))))))), ?_⟩
  have hpr : primeD (.int p) = true := by
    show (decide (1000 ≤ p) && decide (p ≤ 170141183460469231731687303715884105728)) = true
    rw [decide_eq_true p0, decide_eq_true p2]
    rfl
  obtain ⟨vp, xs, rfl, hvt, hvd⟩ := ofTup hv
  obtain ⟨hkey, _⟩ := facts_dp hF.2.1
  refine ⟨_, rfl, .int p, .int p, rfl, .int p, ok_pr p0 p2, hpr, fun H1 s1 => ?_⟩
  refine ⟨_, rfl, .ref vp, ds, rfl, hv.same s1, hF, fun H2 s2 => ?_⟩
  refine ⟨_, rfl, fun x dx' nx ndx ne => ⟨x, dx', p, rfl, upd_same, hCR, nm, np, fun H3 k3 e3 => ⟨rfl, ?_⟩⟩⟩
  have s02 := Same.trans s1 s2
  have s3 : Same H H3 := fun b o hb => by
    have h2 := s02 _ _ hb
    have nb : b ≠ x := fun e => by
      rw [e, nx] at h2
      cases h2
    refine k3 _ _ nb ?_
    rw [upd_ne nb, upd_ne (ne_of_none h2 ndx)]
    exact h2
  have nhx : H x = none := none_of_same s02 nx
  have ntx : t ≠ x := fun e => by
    rw [e, nhx] at ha
    cases ha
  refine ⟨.ref x, rfl, x, dx', _, rfl, e3, rfl, _, rfl, vp, rfl, ⟨xs, (hvt.same s3).sq⟩, fun D hD => ?_⟩
  have lxs : xs.length = ds.length := ddAll_len hvd
  have hv3 := DdAll.same s3 hvd
  refine lc_tup (xs := xs) (fun i H' => Same H3 H' ∧ ∃ ys, H' D = some (.lst ys) ∧ DdAll K H' ys ((ds.map (prD p)).take i)) ⟨same_up hD, [], upd_same, .nil⟩ (fun i H' _ e => ((hvt.same s3).same e.1).sq) (fun i y H' hy e => ?_) (fun H4 e => ?_)
  · obtain ⟨s4, ys, hys, hd⟩ := e
    obtain ⟨d, hd1, hd2⟩ := dall_at' hv3 hy
    have hdf := hF.2.1 d (List.mem_of_getElem? hd1)
    refine ⟨rfl, .ref x, rfl, x, dx', _, rfl, s4 _ _ e3, rfl, _, rfl, x, dx', 0, y, d, rfl, s4 _ _ e3, hCR, np, hd2.same s4, hdf.1, hdf.2, p1, p2, fun T H5 s5 nT hT => ⟨ys, s5 _ _ hys, ?_, same_updN (Same.trans s4 s5) hD, _, upd_same, ?_⟩⟩
    · have := ddAll_len hd
      rw [List.length_take, List.length_map] at this
      rw [sizeLine_eq]
      omega
    · have kD : Kt CP H5 (upd H5 D (.lst (ys ++ [V.ref T]))) := kt_upd (s5 _ _ hys) (fun e => e)
      have hk : keyTs ((ds.map (prD p)).take (i + 1)) = true := keyTs_all.mpr fun z hz => keyTs_mem (prD_keys hkey) (List.mem_of_mem_take hz)
      refine dds_kt kD hk ?_
      rw [take_snoc (xs := ds.map (prD p)) (x := prD p d) (by rw [List.getElem?_map, hd1]; rfl)]
      exact ddAll_snoc (DdAll.same s5 hd) (.tup hT (.cons ((hd2.same s4).same s5) (.cons (.int _) .nil)))
  obtain ⟨s4, ys, hys, hd⟩ := e
  rw [List.take_of_length_le (by rw [List.length_map]; omega)] at hd
  refine ⟨x, dx', D, 0, ds, ys, rfl, s4 _ _ e3, ⟨_, hys⟩, SqL.of hys, hd, hkey, zd, fun d _ => rkI_le _, fun H5 a k5 n5 e5 part => ?_⟩
  rw [Int.zero_add] at e5
  have s5 : Same H H5 := fun b o hb => k5 _ _ (fun e => by rw [e, nhx] at hb; cases hb) (s4 _ _ (s3 _ _ hb))
  have a5 := s5 _ _ ha
  refine ⟨.ref t, rfl, t, CT, dx, _, rfl, a5, hCT, hNo _ (by simp), by decide, ?_⟩
  have k6 : Keep t H (upd H5 t (.ins CT dx (putF "_top" (V.ref a) []))) := (keepS s5).upd
  have P6 := part.kt (ins_step (u := .ins CT dx (putF "_top" (V.ref a) [])) a5 (by decide))
  have x6 : upd H5 t (.ins CT dx (putF "_top" (V.ref a) [])) x = some (.ins CR dx' (recF (trCount (tree p ds) : Int) p)) := by rw [upd_ne (Ne.symm ntx), e5]
  have e6 : upd H5 t (.ins CT dx (putF "_top" (V.ref a) [])) t = some (.ins CT dx [("_top", V.ref a)]) := upd_same
  generalize upd H5 t (.ins CT dx (putF "_top" (V.ref a) [])) = H6 at k6 P6 x6 e6 ⊢
  refine ⟨.ref x, rfl, x, CR, dx', _, .int (trCount (tree p ds) : Int), rfl, x6, hCR, nm, rfl, .ref t, rfl, t, CT, dx, _, rfl, e6, hCT, hNo _ (by simp), by simp, ?_⟩
  have k7 : Keep t H (upd H6 t (.ins CT dx (putF "_many_made" (V.int (trCount (tree p ds) : Int)) [("_top", V.ref a)]))) := k6.upd
  have P7 := P6.kt (ins_step (u := .ins CT dx (putF "_many_made" (V.int (trCount (tree p ds) : Int)) [("_top", V.ref a)])) e6 (by simp))
  have e7 : upd H6 t (.ins CT dx (putF "_many_made" (V.int (trCount (tree p ds) : Int)) [("_top", V.ref a)])) t = some (.ins CT dx [("_top", V.ref a), ("_many_made", V.int (trCount (tree p ds) : Int))]) := upd_same
  generalize upd H6 t (.ins CT dx (putF "_many_made" (V.int (trCount (tree p ds) : Int)) [("_top", V.ref a)])) = H7 at k7 P7 e7 ⊢
  refine ⟨_, rfl, .ref t, rfl, t, CT, dx, _, rfl, e7, hCT, hNo _ (by simp), by simp, ?_⟩
  have k8 : Keep t H (upd H7 t (.ins CT dx (putF "p" (V.int p) [("_top", V.ref a), ("_many_made", V.int (trCount (tree p ds) : Int))]))) := k7.upd
  have P8 := P7.kt (ins_step (u := .ins CT dx (putF "p" (V.int p) [("_top", V.ref a), ("_many_made", V.int (trCount (tree p ds) : Int))])) e7 (by simp))
  have e8 : upd H7 t (.ins CT dx (putF "p" (V.int p) [("_top", V.ref a), ("_many_made", V.int (trCount (tree p ds) : Int))])) t = some (.ins CT dx [("_top", V.ref a), ("_many_made", V.int (trCount (tree p ds) : Int)), ("p", V.int p)]) := upd_same
  generalize upd H7 t (.ins CT dx (putF "p" (V.int p) [("_top", V.ref a), ("_many_made", V.int (trCount (tree p ds) : Int))])) = H8 at k8 P8 e8 ⊢
  refine ⟨_, rfl, .ref t, rfl, t, CT, dx, _, rfl, e8, hCT, hNo _ (by simp), by simp, ?_⟩
  have k9 : Keep t H (upd H8 t (.ins CT dx (putF "facts" (V.ref vp) [("_top", V.ref a), ("_many_made", V.int (trCount (tree p ds) : Int)), ("p", V.int p)]))) := k8.upd
  have P9 := P8.kt (ins_step (u := .ins CT dx (putF "facts" (V.ref vp) [("_top", V.ref a), ("_many_made", V.int (trCount (tree p ds) : Int)), ("p", V.int p)])) e8 (by simp))
  have e9 : upd H8 t (.ins CT dx (putF "facts" (V.ref vp) [("_top", V.ref a), ("_many_made", V.int (trCount (tree p ds) : Int)), ("p", V.int p)])) t = some (.ins CT dx [("_top", V.ref a), ("_many_made", V.int (trCount (tree p ds) : Int)), ("p", V.int p), ("facts", V.ref vp)]) := upd_same
  generalize upd H8 t (.ins CT dx (putF "facts" (V.ref vp) [("_top", V.ref a), ("_many_made", V.int (trCount (tree p ds) : Int)), ("p", V.int p)])) = H9 at k9 P9 e9 ⊢
  obtain ⟨dxa, fsa, ga, lm, _⟩ := part_get P9 (tree_nc p ds)
  refine ⟨.ref t, rfl, t, CT, dx, _, .ref a, rfl, e9, hCT, hNo _ (by simp), rfl, a, CP, dxa, fsa, _, rfl, ga, hC, nM, lm, .ref t, rfl, t, CT, dx, _, rfl, e9, hCT, hNo _ (by simp), by simp, ?_⟩
  have k10 : Keep t H (upd H9 t (.ins CT dx (putF "many" (V.int (trMany (tree p ds) : Int)) [("_top", V.ref a), ("_many_made", V.int (trCount (tree p ds) : Int)), ("p", V.int p), ("facts", V.ref vp)]))) := k9.upd
  have P10 := P9.kt (ins_step (u := .ins CT dx (putF "many" (V.int (trMany (tree p ds) : Int)) [("_top", V.ref a), ("_many_made", V.int (trCount (tree p ds) : Int)), ("p", V.int p), ("facts", V.ref vp)])) e9 (by simp))
  have e10 : upd H9 t (.ins CT dx (putF "many" (V.int (trMany (tree p ds) : Int)) [("_top", V.ref a), ("_many_made", V.int (trCount (tree p ds) : Int)), ("p", V.int p), ("facts", V.ref vp)])) t = some (.ins CT dx [("_top", V.ref a), ("_many_made", V.int (trCount (tree p ds) : Int)), ("p", V.int p), ("facts", V.ref vp), ("many", V.int (trMany (tree p ds) : Int))]) := upd_same
  generalize upd H9 t (.ins CT dx (putF "many" (V.int (trMany (tree p ds) : Int)) [("_top", V.ref a), ("_many_made", V.int (trCount (tree p ds) : Int)), ("p", V.int p), ("facts", V.ref vp)])) = H10 at k10 P10 e10 ⊢
  obtain ⟨dxb, fsb, gb, _, ln⟩ := part_get P10 (tree_nc p ds)
  refine ⟨.ref t, rfl, t, CT, dx, _, .ref a, rfl, e10, hCT, hNo _ (by simp), rfl, a, CP, dxb, fsb, _, rfl, gb, hC, nu, ln, .ref t, rfl, t, CT, dx, _, rfl, e10, hCT, hNo _ (by simp), by simp, ?_⟩
  exact q _ a k10.upd upd_same (P10.kt (ins_step e10 (by simp)))
end
end Sm
/-! Showings, as mathematics: a tree in which what is shut is cut. -/
namespace Sm
open PySem PySem.Spec PyProof.Rows L2 Vd
def FactL (l : List PyData) : Prop := ∀ d ∈ l, okD d = true ∧ factD d = true
/-- the fact next behind a child -/
def nxt : List PyData → Option PyData → Option PyData
  | [], ob => ob
  | o :: _, _ => some o
mutual
def sct (ts : List Stt) (p : Int) : Tr → Option PyData → Option PyData → Tr
  | .cut n m, _, _ => .cut n m
  | .mk cs own, oa, ob => .mk (scts ts p cs oa own ob) own
def scts (ts : List Stt) (p : Int) : List Tr → Option PyData → List PyData → Option PyData → List Tr
  | [], _, _, _ => []
  | t :: r, oa, own, ob => (if shutAll ts oa (nxt own ob) = true then .cut (trNum p t) (trMany t) else sct ts p t oa (nxt own ob)) :: scts ts p r own.head? own.tail ob
end
theorem scts_len (ts : List Stt) (p : Int) : ∀ (cs : List Tr) (oa : Option PyData) (own : List PyData) (ob : Option PyData), (scts ts p cs oa own ob).length = cs.length
  | [], _, _, _ => by
    unfold scts
    rfl
  | t :: r, oa, own, ob => by
    unfold scts
    rw [List.length_cons, List.length_cons, scts_len]
theorem scts_at (ts : List Stt) (p : Int) : ∀ (cs : List Tr) (oa : Option PyData) (own : List PyData) (ob : Option PyData) (i : Nat) (t : Tr) (x y : Option PyData), cs.length = own.length + 1 → cs[i]? = some t → (oa :: (own.map some ++ [ob]))[i]? = some x → (own.map some ++ [ob])[i]? = some y →
    (scts ts p cs oa own ob)[i]? = some (if shutAll ts x y = true then .cut (trNum p t) (trMany t) else sct ts p t x y)
  | [], oa, own, ob, i, t, x, y, h, ht, hx, hy => by simp at h
  | c :: cs, oa, own, ob, i, t, x, y, h, ht, hx, hy => by
    unfold scts
    cases i with
    | zero =>
      cases ht
      cases hx
      have e : nxt own ob = y := by
        cases own with
        | nil =>
          cases hy
          rfl
        | cons o r =>
          cases hy
          rfl
      rw [e]
      rfl
    | succ i =>
      cases own with
      | nil =>
        have : cs = [] := List.length_eq_zero_iff.mp (by simpa using h)
        subst this
        simp at ht
      | cons o r =>
        exact scts_at ts p cs (some o) r ob i t x y (by simpa using h) (by simpa using ht) (by simpa using hx) (by simpa using hy)
theorem shDs_map : ∀ cs : List Tr, shDs cs = cs.map shD
  | [] => rfl
  | t :: r => by
    unfold shDs
    rw [shDs_map r]
    rfl
theorem cut_sh (n : Int) (m : Nat) : shD (.cut n m) = .tuple [.str "cut", .int n, .int (m : Int)] := by
  unfold shD
  rfl
mutual
theorem cut_key (ts : List Stt) (p : Int) : ∀ (t : Tr) (oa ob : Option PyData), keyT (shD t) = true → keyT (shD (sct ts p t oa ob)) = true
  | .cut n m, oa, ob, h => by
    unfold sct
    exact h
  | .mk [] own, oa, ob, h => by
    unfold sct scts
    exact h
  | .mk (c :: cs) own, oa, ob, h => by
    have h2 : keyTs (shDs (c :: cs)) = true ∧ keyTs own = true := by
      simpa [shD, keyT, keyTs] using h
    have h3 := cuts_key ts p (c :: cs) oa own ob h2.1
    unfold sct
    have ne : (scts ts p (c :: cs) oa own ob).isEmpty = false := by
      unfold scts
      rfl
    simp [shD, ne, keyT, keyTs, h3, h2.2]
theorem cuts_key (ts : List Stt) (p : Int) : ∀ (cs : List Tr) (oa : Option PyData) (own : List PyData) (ob : Option PyData), keyTs (shDs cs) = true → keyTs (shDs (scts ts p cs oa own ob)) = true
  | [], oa, own, ob, h => by
    unfold scts
    exact h
  | t :: r, oa, own, ob, h => by
    have h2 : keyT (shD t) = true ∧ keyTs (shDs r) = true := by simpa [shDs, keyTs] using h
    have h3 := cuts_key ts p r own.head? own.tail ob h2.2
    have h4 := cut_key ts p t oa (nxt own ob) h2.1
    unfold scts
    split
    · simp [shDs, keyTs, h3, cut_sh, keyT]
    · simp [shDs, keyTs, h3, h4]
end
mutual
theorem cut_nm (ts : List Stt) (p : Int) : ∀ (t : Tr) (oa ob : Option PyData), trNum p (sct ts p t oa ob) = trNum p t ∧ trMany (sct ts p t oa ob) = trMany t
  | .cut n m, oa, ob => by
    unfold sct
    exact ⟨rfl, rfl⟩
  | .mk cs own, oa, ob => by
    obtain ⟨h1, h2⟩ := cuts_nm ts p cs oa own ob
    unfold sct
    have e : (scts ts p cs oa own ob).isEmpty = cs.isEmpty := by
      have := scts_len ts p cs oa own ob
      cases cs <;> cases hh : scts ts p _ oa own ob <;> rw [hh] at this <;> simp at this ⊢
    unfold trNum trMany
    rw [e, h1, h2]
    exact ⟨rfl, rfl⟩
theorem cuts_nm (ts : List Stt) (p : Int) : ∀ (cs : List Tr) (oa : Option PyData) (own : List PyData) (ob : Option PyData), trPairs p (scts ts p cs oa own ob) = trPairs p cs ∧ trManys (scts ts p cs oa own ob) = trManys cs
  | [], oa, own, ob => by
    unfold scts
    exact ⟨rfl, rfl⟩
  | t :: r, oa, own, ob => by
    obtain ⟨h1, h2⟩ := cuts_nm ts p r own.head? own.tail ob
    obtain ⟨h3, h4⟩ := cut_nm ts p t oa (nxt own ob)
    unfold scts trPairs trManys
    rw [h1, h2]
    split
    · have e1 : trNum p (.cut (trNum p t) (trMany t)) = trNum p t := by
        conv => lhs; unfold trNum
      have e2 : trMany (.cut (trNum p t) (trMany t)) = trMany t := by
        conv => lhs; unfold trMany
      rw [e1, e2]
      exact ⟨rfl, rfl⟩
    · rw [h3, h4]
      exact ⟨rfl, rfl⟩
end
end Sm
/-! zip of a tuple and a list: two iterators of any kind in a zip. -/
namespace Zm
open PySem PySem.AutoSeq1
section
variable {P : Program} {w : World} {A : Around} {Er : Value → Shared → Prop} {s : Shared}
/-- the next of the iterator j over b is x, in every heap that has kept both -/
def Gives (P : Program) (w : World) (j b : Addr) (h0 : Heap) (x : Value) (In : Heap → Prop) : Prop :=
  ∀ (A : Around) (E2 Y : Value → Shared → Prop) (t : Shared), (∀ o, h0.get? j = some o → t.heap.get? j = some o) → (∀ o, h0.get? b = some o → t.heap.get? b = some o) → (∀ g, In g → Heap.SameBut j t.heap g → Y x { t with heap := g }) → wpAny (model P w) A (Builtin.SmallTypes.nextOf (.ref j)) Y E2 t
def Ends (P : Program) (w : World) (j b : Addr) (h0 : Heap) : Prop :=
  ∀ (A : Around) (E2 Y : Value → Shared → Prop) (t : Shared), A.handled = none → (∀ o, h0.get? j = some o → t.heap.get? j = some o) → (∀ o, h0.get? b = some o → t.heap.get? b = some o) → (∀ g e, Heap.ExtBut j t.heap g → (∃ o, g.get? e = some o ∧ o.cls = .type "StopIteration") → E2 (.ref e) { t with heap := g }) → wpAny (model P w) A (Builtin.SmallTypes.nextOf (.ref j)) Y E2 t
def Stays (j : Addr) (In : Heap → Prop) : Prop := ∀ g g' : Heap, In g → (∀ o, g.get? j = some o → g'.get? j = some o) → In g'
theorem two_turn {z TI TO j1 j2 b1 b2 : Addr} {x y u v : Value} {Z : Value → Shared → Prop} {In1 In2 : Heap → Prop} (ap : ZipApart z TI TO j1 j2 b1 b2) (kz : IsZip s.heap z TI TO .none) (ki : IsPair s.heap TI (.ref j1) (.ref j2)) (ko : IsPair s.heap TO u v)
    (g1 : Gives P w j1 b1 s.heap x In1) (g2 : Gives P w j2 b2 s.heap y In2) (y1 : Stays j1 In1) (y2 : Stays j2 In2) (l1 : j1 < s.heap.objs.size) (l2 : j2 < s.heap.objs.size)
    (fin : ∀ g, IsZip g z TI TO (rawInt s.heap.objs.size) → IsPair g TO x y → In1 g → In2 g → IsPair g s.heap.objs.size x y → g.objs.size = s.heap.objs.size + 1 →
      (∀ c o, c ≠ z → c ≠ TO → c ≠ j1 → c ≠ j2 → s.heap.get? c = some o → g.get? c = some o) → Z (.ref s.heap.objs.size) { s with heap := g }) :
    wpAny (model P w) A (Builtin.«zip.__next__» ⟨[.ref z], []⟩) (fun f s' => ∃ v, f = .done (.ret v) ∧ Z v s') Er s := by
  obtain ⟨a0, a1, a2, a3, a4⟩ := s
  show wpAny _ _ (field (.ref z) 2 >>= _) _ _ ⟨a0, a1, a2, a3, a4⟩
  refine wpAny_bind (wpAny_field kz rfl (x := .bool false) rfl ?_)
  show wpAny _ _ (field (.ref z) 3 >>= _) _ _ ⟨a0, a1, a2, a3, a4⟩
  refine wpAny_bind (wpAny_field kz rfl (x := .ref TI) rfl (wpAny_bind (wpAny_seqItems ki rfl ?_)))
  show wpAny _ _ (Builtin.SmallTypes.ownedTupleIsFree (.ref z) >>= _) _ _ ⟨a0, a1, a2, a3, a4⟩
  refine wpAny_bind ?_
  unfold Builtin.SmallTypes.ownedTupleIsFree
  refine wpAny_bind (wpAny_field kz rfl (x := .none) rfl (wpAny_pure ?_))
  simp only [if_true]
  refine wpAny_bind (wpAny_rule (wpAny_bind (wpAny_field kz rfl (x := .ref TO) rfl (wpAny_bind (wpAny_setField_rec kz (by simp) fun h1 kz1 m1 => ?_)))))
  have m1' : Heap.SameBut z a0 h1 := m1
  have kz1' : IsZip h1 z TI TO .ellipsis := kz1
  refine wpAny_bind ?_
  simp only [List.zipIdx_cons, List.zipIdx_nil, List.forIn_cons, List.forIn_nil]
  refine wpAny_bind (wpAny_bind (wpAny_onRaise ?_))
  show wpAny _ _ (Builtin.SmallTypes.nextOf (.ref j1) >>= _) _ _ ⟨h1, a1, a2, a3, a4⟩
  refine wpAny_bind (g1 _ _ _ ⟨h1, a1, a2, a3, a4⟩ (fun o q => m1'.extBut _ _ ap.i1z q) (fun o q => m1'.extBut _ _ ap.l1z q) fun h2 i2 m2 => wpAny_pure ?_)
  have m2' : Heap.SameBut j1 h1 h2 := m2
  have ko2 : IsPair h2 TO u v := m2'.extBut _ _ ap.TOi1 (m1'.extBut _ _ ap.TOz ko)
  refine wpAny_bind (wpAny_seqItems ko2 rfl (wpAny_bind (wpAny_updateSeq_pair ko2 fun h3 ko3 m3 => wpAny_bind (wpAny_letGo (wpAny_pure ?_)))))
  have m3' : Heap.SameBut TO h2 h3 := m3
  have ko3' : IsPair h3 TO x v := ko3
  refine wpAny_bind (wpAny_bind (wpAny_onRaise ?_))
  show wpAny _ _ (Builtin.SmallTypes.nextOf (.ref j2) >>= _) _ _ ⟨h3, a1, a2, a3, a4⟩
  refine wpAny_bind (g2 _ _ _ ⟨h3, a1, a2, a3, a4⟩ (fun o q => m3'.extBut _ _ ap.TOi2.symm (m2'.extBut _ _ ap.i12.symm (m1'.extBut _ _ ap.i2z q))) (fun o q => m3'.extBut _ _ ap.l2TO (m2'.extBut _ _ ap.l2i1 (m1'.extBut _ _ ap.l2z q))) fun h4 i4 m4 => wpAny_pure ?_)
  have m4' : Heap.SameBut j2 h3 h4 := m4
  have ko4 : IsPair h4 TO x v := m4'.extBut _ _ ap.TOi2 ko3'
  refine wpAny_bind (wpAny_seqItems ko4 rfl (wpAny_bind (wpAny_updateSeq_pair ko4 fun h5 ko5 m5 => wpAny_bind (wpAny_letGo (wpAny_pure (wpAny_pure ?_))))))
  have m5' : Heap.SameBut TO h4 h5 := m5
  have ko5' : IsPair h5 TO x y := ko5
  refine wpAny_bind (wpAny_seqItems ko5' rfl (wpAny_bind (wpAny_newTuple ?_)))
  have big : h5.objs.size = a0.objs.size := by rw [m5'.1, m4'.1, m3'.1, m2'.1, m1'.1]
  have kz5 : IsZip h5 z TI TO .ellipsis := m5'.extBut _ _ ap.TOz.symm (m4'.extBut _ _ ap.i2z.symm (m3'.extBut _ _ ap.TOz.symm (m2'.extBut _ _ ap.i1z.symm kz1')))
  have up5 : ∀ c o, c ≠ z → c ≠ TO → c ≠ j1 → c ≠ j2 → a0.get? c = some o → h5.get? c = some o := fun c o c1 c2 c3 c4 q => m5'.extBut _ _ c2 (m4'.extBut _ _ c4 (m3'.extBut _ _ c2 (m2'.extBut _ _ c3 (m1'.extBut _ _ c1 q))))
  have in1 : In1 h5 := y1 _ _ (y1 _ _ (y1 _ _ i2 fun o q => m3'.extBut _ _ ap.TOi1.symm q) fun o q => m4'.extBut _ _ ap.i12 q) fun o q => m5'.extBut _ _ ap.TOi1.symm q
  have in2 : In2 h5 := y2 _ _ i4 fun o q => m5'.extBut _ _ ap.TOi2.symm q
  have lz : z < h5.objs.size := Heap.lt_size kz5
  show wpAny _ _ (Builtin.SmallTypes.ownedTupleHandOut (.ref z) (.ref h5.objs.size) >>= _) _ _ _
  refine wpAny_bind ?_
  unfold Builtin.SmallTypes.ownedTupleHandOut
  have kz6 : IsZip (h5.push { cls := .type "tuple", data := .seq #[x, y] }) z TI TO .ellipsis := Heap.get?_push_of_some _ kz5
  refine wpAny_bind (wpAny_setField_rec kz6 (by simp) fun h7 kz7 m7 => ?_)
  have kz7' : IsZip h7 z TI TO (rawInt h5.objs.size) := kz7
  have m7' : Heap.SameBut z (h5.push { cls := .type "tuple", data := .seq #[x, y] }) h7 := m7
  refine wpAny_setField_rec kz7' (by simp) fun h8 kz8 m8 => ?_
  have kz8' : IsZip h8 z TI TO (rawInt h5.objs.size) := kz8
  have m8' : Heap.SameBut z h7 h8 := m8
  have up : ∀ c o, c ≠ z → h5.get? c = some o → h8.get? c = some o := fun c o n q => m8'.extBut _ _ n (m7'.extBut _ _ n (Heap.get?_push_of_some _ q))
  have new8 : IsPair h8 h5.objs.size x y := m8'.extBut _ _ (Nat.ne_of_gt lz) (m7'.extBut _ _ (Nat.ne_of_gt lz) (Heap.get?_push_size _ rfl))
  have sz8 : h8.objs.size = h5.objs.size + 1 := by rw [m8'.1, m7'.1, Heap.size_push]
  rw [big] at kz8' new8 sz8
  refine wpAny_pure ⟨_, rfl, ?_⟩
  show Z (.ref h5.objs.size) _
  rw [big]
  exact fin h8 kz8' (up _ _ ap.TOz ko5') (y1 _ _ in1 fun o q => up _ o ap.i1z q) (y2 _ _ in2 fun o q => up _ o ap.i2z q) new8 sz8 fun c o c1 c2 c3 c4 q => up c o c1 (up5 c o c1 c2 c3 c4 q)
theorem two_end {z TI TO j1 j2 b1 b2 : Addr} {u v : Value} {Z : Fin → Shared → Prop} (hh : A.handled = none) (ap : ZipApart z TI TO j1 j2 b1 b2) (kz : IsZip s.heap z TI TO .none) (ki : IsPair s.heap TI (.ref j1) (.ref j2)) (ko : IsPair s.heap TO u v)
    (how : Ends P w j1 b1 s.heap ∨ ((∃ x In, Gives P w j1 b1 s.heap x In) ∧ Ends P w j2 b2 s.heap))
    (fin : ∀ g e, (∀ c o, c ≠ z → c ≠ TO → c ≠ j1 → c ≠ j2 → s.heap.get? c = some o → g.get? c = some o) → (∃ o, g.get? e = some o ∧ o.cls = .type "StopIteration") → Er (.ref e) { s with heap := g }) :
    wpAny (model P w) A (Builtin.«zip.__next__» ⟨[.ref z], []⟩) Z Er s := by
  obtain ⟨a0, a1, a2, a3, a4⟩ := s
  show wpAny _ _ (field (.ref z) 2 >>= _) _ _ ⟨a0, a1, a2, a3, a4⟩
  refine wpAny_bind (wpAny_field kz rfl (x := .bool false) rfl ?_)
  show wpAny _ _ (field (.ref z) 3 >>= _) _ _ ⟨a0, a1, a2, a3, a4⟩
  refine wpAny_bind (wpAny_field kz rfl (x := .ref TI) rfl (wpAny_bind (wpAny_seqItems ki rfl ?_)))
  show wpAny _ _ (Builtin.SmallTypes.ownedTupleIsFree (.ref z) >>= _) _ _ ⟨a0, a1, a2, a3, a4⟩
  refine wpAny_bind ?_
  unfold Builtin.SmallTypes.ownedTupleIsFree
  refine wpAny_bind (wpAny_field kz rfl (x := .none) rfl (wpAny_pure ?_))
  simp only [if_true]
  refine wpAny_bind (wpAny_rule (wpAny_bind (wpAny_field kz rfl (x := .ref TO) rfl (wpAny_bind (wpAny_setField_rec kz (by simp) fun h1 kz1 m1 => ?_)))))
  have m1' : Heap.SameBut z a0 h1 := m1
  have kz1' : IsZip h1 z TI TO .ellipsis := kz1
  refine wpAny_bind ?_
  simp only [List.zipIdx_cons, List.zipIdx_nil, List.forIn_cons, List.forIn_nil]
  refine wpAny_bind (wpAny_bind (wpAny_onRaise ?_))
  show wpAny _ _ (Builtin.SmallTypes.nextOf (.ref j1) >>= _) _ _ ⟨h1, a1, a2, a3, a4⟩
  rcases how with n1 | ⟨⟨x, In, g1⟩, n2⟩
  · refine wpAny_bind (n1 _ _ _ ⟨h1, a1, a2, a3, a4⟩ hh (fun o q => m1'.extBut _ _ ap.i1z q) (fun o q => m1'.extBut _ _ ap.l1z q) fun h2 e m2 ⟨oe, hoe, hce⟩ => ?_)
    have m2' : Heap.ExtBut j1 h1 h2 := m2
    have kz2 : IsZip h2 z TI TO .ellipsis := m2' _ _ ap.i1z.symm kz1'
    have ez : e ≠ z := fun q => by subst q; rw [kz2] at hoe; cases hoe; simp at hce
    exact wpAny_setField_rec kz2 (by simp) fun h3 _ m3 => fin h3 e (fun c o c1 _ c3 _ q => m3.extBut _ _ c1 (m2' _ _ c3 (m1'.extBut _ _ c1 q))) ⟨oe, m3.extBut _ _ ez hoe, hce⟩
  · refine wpAny_bind (g1 _ _ _ ⟨h1, a1, a2, a3, a4⟩ (fun o q => m1'.extBut _ _ ap.i1z q) (fun o q => m1'.extBut _ _ ap.l1z q) fun h2 _ m2 => wpAny_pure ?_)
    have m2' : Heap.SameBut j1 h1 h2 := m2
    have ko2 : IsPair h2 TO u v := m2'.extBut _ _ ap.TOi1 (m1'.extBut _ _ ap.TOz ko)
    refine wpAny_bind (wpAny_seqItems ko2 rfl (wpAny_bind (wpAny_updateSeq_pair ko2 fun h3 ko3 m3 => wpAny_bind (wpAny_letGo (wpAny_pure ?_)))))
    have m3' : Heap.SameBut TO h2 h3 := m3
    refine wpAny_bind (wpAny_bind (wpAny_onRaise ?_))
    show wpAny _ _ (Builtin.SmallTypes.nextOf (.ref j2) >>= _) _ _ ⟨h3, a1, a2, a3, a4⟩
    refine wpAny_bind (n2 _ _ _ ⟨h3, a1, a2, a3, a4⟩ hh (fun o q => m3'.extBut _ _ ap.TOi2.symm (m2'.extBut _ _ ap.i12.symm (m1'.extBut _ _ ap.i2z q))) (fun o q => m3'.extBut _ _ ap.l2TO (m2'.extBut _ _ ap.l2i1 (m1'.extBut _ _ ap.l2z q))) fun h4 e m4 ⟨oe, hoe, hce⟩ => ?_)
    have m4' : Heap.ExtBut j2 h3 h4 := m4
    have kz4 : IsZip h4 z TI TO .ellipsis := m4' _ _ ap.i2z.symm (m3'.extBut _ _ ap.TOz.symm (m2'.extBut _ _ ap.i1z.symm kz1'))
    have ez : e ≠ z := fun q => by subst q; rw [kz4] at hoe; cases hoe; simp at hce
    exact wpAny_setField_rec kz4 (by simp) fun h5 _ m5 => fin h5 e (fun c o c1 c2 c3 c4 q => m5.extBut _ _ c1 (m4' _ _ c4 (m3'.extBut _ _ c2 (m2'.extBut _ _ c3 (m1'.extBut _ _ c1 q))))) ⟨oe, m5.extBut _ _ ez hoe, hce⟩
theorem item2 {z TI TO j1 j2 b1 b2 : Addr} {x y u v : Value} {Z : Option Value → Shared → Prop} {In1 In2 : Heap → Prop} (ap : ZipApart z TI TO j1 j2 b1 b2) (kz : IsZip s.heap z TI TO .none) (ki : IsPair s.heap TI (.ref j1) (.ref j2)) (ko : IsPair s.heap TO u v)
    (g1 : Gives P w j1 b1 s.heap x In1) (g2 : Gives P w j2 b2 s.heap y In2) (y1 : Stays j1 In1) (y2 : Stays j2 In2) (l1 : j1 < s.heap.objs.size) (l2 : j2 < s.heap.objs.size)
    (fin : ∀ g, IsZip g z TI TO (rawInt s.heap.objs.size) → IsPair g TO x y → In1 g → In2 g → IsPair g s.heap.objs.size x y → g.objs.size = s.heap.objs.size + 1 →
      (∀ c o, c ≠ z → c ≠ TO → c ≠ j1 → c ≠ j2 → s.heap.get? c = some o → g.get? c = some o) → Z (some (.ref s.heap.objs.size)) { s with heap := g }) : wpAny (model P w) A (pyNext (.ref z)) Z Er s := by
  have kind : s.TypeIs (.ref z) "zip" := ⟨_, kz, rfl⟩
  unfold pyNext
  refine wpAny_bind (wpAny_attempt (wpAny_callSpecial?_slot (name := Str.ofString "__next__") kind F.slot_zip_next (wpAny_call_entry F.slot_zip_next kind F.entry_zip_next ?_ (F.args_zip_next_1 _))))
  exact two_turn ap kz ki ko g1 g2 y1 y2 l1 l2 fun g a b c d e f k => wpAny_pure (fin g a b c d e f k)
theorem end2 {z TI TO j1 j2 b1 b2 : Addr} {u v : Value} {Z : Option Value → Shared → Prop} (hh : A.handled = none) (ap : ZipApart z TI TO j1 j2 b1 b2) (kz : IsZip s.heap z TI TO .none) (ki : IsPair s.heap TI (.ref j1) (.ref j2)) (ko : IsPair s.heap TO u v)
    (how : Ends P w j1 b1 s.heap ∨ ((∃ x In, Gives P w j1 b1 s.heap x In) ∧ Ends P w j2 b2 s.heap))
    (fin : ∀ g, (∀ c o, c ≠ z → c ≠ TO → c ≠ j1 → c ≠ j2 → s.heap.get? c = some o → g.get? c = some o) → Z none { s with heap := g }) : wpAny (model P w) A (pyNext (.ref z)) Z Er s := by
  have kind : s.TypeIs (.ref z) "zip" := ⟨_, kz, rfl⟩
  unfold pyNext
  refine wpAny_bind (wpAny_attempt (wpAny_callSpecial?_slot (name := Str.ofString "__next__") kind F.slot_zip_next (wpAny_call_entry F.slot_zip_next kind F.entry_zip_next ?_ (F.args_zip_next_1 _))))
  refine two_end hh ap kz ki ko how fun g e k he => ?_
  obtain ⟨o, ho, hc⟩ := he
  exact wpAny_bind (wpAny_isInstance (T := "StopIteration") (b := true) ⟨o, ho, hc⟩ isSubtype_stop (wpAny_pure (fin _ k)))
theorem gives_t {j b : Addr} {h0 : Heap} {i : Nat} {us : Array Value} {x : Value} (hj : h0.IsTupleIter j b i) (hb : h0.IsTuple b us) (hx : us[i]? = some x) : Gives P w j b h0 x (fun g => g.IsTupleIter j b (i + 1)) := fun A E2 Y t k1 k2 q => by
  obtain ⟨o, ho, r⟩ := hb
  exact RZ.nextOf_tuple_item (hj.at fun o q => k1 o q) ⟨o, k2 _ ho, r⟩ hx fun g i m => q g i m
theorem ends_t {j b : Addr} {h0 : Heap} {i : Nat} {us : Array Value} (hj : h0.IsTupleIter j b i) (hb : h0.IsTuple b us) (hx : us[i]? = none) : Ends P w j b h0 := fun A E2 Y t hh k1 k2 q => by
  obtain ⟨o, ho, r⟩ := hb
  exact RZ.nextOf_tuple_end hh (hj.at fun o q => k1 o q) ⟨o, k2 _ ho, r⟩ hx fun g e m n => q g e m n
theorem gives_l {j b : Addr} {h0 : Heap} {i : Nat} {us : Array Value} {x : Value} (hj : h0.IsListIter j b i) (hb : h0.IsList b us) (hx : us[i]? = some x) : Gives P w j b h0 x (fun g => g.IsListIter j b (i + 1)) := fun A E2 Y t k1 k2 q =>
  wpAny_nextOf_list_item (hj.at fun o q => k1 o q) (hb.at fun o q => k2 o q) hx fun g i m => q g i m
theorem ends_l {j b : Addr} {h0 : Heap} {i : Nat} {us : Array Value} (hj : h0.IsListIter j b i) (hb : h0.IsList b us) (hx : us[i]? = none) : Ends P w j b h0 := fun A E2 Y t hh k1 k2 q =>
  wpAny_nextOf_list_end hh (hj.at fun o q => k1 o q) (hb.at fun o q => k2 o q) hx fun g e m n => q g e m n
/-! making it -/
abbrev m1 (h : Heap) (t : Addr) : Heap := h.push { cls := .type "tuple_iterator", data := .fields #[.ref t, .int 0 0] }
abbrev m2 (h : Heap) (t l : Addr) : Heap := (m1 h t).push { cls := .type "list_iterator", data := .fields #[.ref l, .int 0 0] }
abbrev m3 (h : Heap) (t l : Addr) : Heap := (m2 h t l).push { cls := .type "tuple", data := .seq #[.ref h.objs.size, .ref (m1 h t).objs.size] }
abbrev m4 (h : Heap) (t l : Addr) : Heap := (m3 h t l).push { cls := .type "tuple", data := .seq #[.none, .none] }
abbrev m5 (h : Heap) (t l : Addr) : Heap := (m4 h t l).push { cls := .type "zip", data := .fields #[.none, .bool false, .bool false, .ref (m2 h t l).objs.size, .ref (m3 h t l).objs.size] }
end
theorem new_tl (t l : Addr) (us vs : Array Value) : Meets (Builtin.«zip.__new__» ⟨[.type "zip", .ref t, .ref l], []⟩) (fun _ R s => s.heap.IsTuple t us ∧ s.heap.IsList l vs ∧ R (.ok (.ret (.ref (m4 s.heap t l).objs.size))) { s with heap := m5 s.heap t l }) :=
  .of_wp fun P w A R s hyp => by
    obtain ⟨a0, a1, a2, a3, a4⟩ := s
    obtain ⟨ht, hl, k⟩ := hyp
    have sub := sub_zip
    have kt : Heap.IsTuple (Shared.heap ⟨a0, a1, a2, a3, a4⟩) t us := ht
    have kl : Heap.IsList (Shared.heap ⟨a0.push { cls := .type "tuple_iterator", data := .fields #[.ref t, .int 0 0] }, a1, a2, a3, a4⟩) l vs := Heap.IsList.at hl fun o q => Heap.get?_push_of_some _ q
    wp_walk using wpAny_pyIter_tuple kt, wpAny_pyIter_list kl
    exact ⟨_, rfl, k⟩
section
variable {P : Program} {w : World} {A : Around} {Er : Value → Shared → Prop} {s : Shared}
theorem call_tl {t l : Addr} {us vs : Array Value} {Z : Value → Shared → Prop} (ht : s.heap.IsTuple t us) (hl : s.heap.IsList l vs)
    (fin : ∀ g, IsZip g (s.heap.objs.size + 4) (s.heap.objs.size + 2) (s.heap.objs.size + 3) .none → IsPair g (s.heap.objs.size + 2) (.ref s.heap.objs.size) (.ref (s.heap.objs.size + 1)) → IsPair g (s.heap.objs.size + 3) .none .none →
      g.IsTupleIter s.heap.objs.size t 0 → g.IsListIter (s.heap.objs.size + 1) l 0 → (∀ c o, s.heap.get? c = some o → g.get? c = some o) → Z (.ref (s.heap.objs.size + 4)) { s with heap := g }) : wpAny (model P w) A (call (.type "zip") [.ref t, .ref l]) Z Er s := by
  refine callType_new F.called_zip (by decide) (F.typeCall_zip_2 _ _) (F.newCall_zip_2 _ _) (fun obj => F.args_object_init_3 obj _ _) F.entry_zip_new (new_tl t l us vs) ⟨ht, hl, ?_⟩
  have q1 : (m1 s.heap t).objs.size = s.heap.objs.size + 1 := Heap.size_push ..
  have q2 : (m2 s.heap t l).objs.size = s.heap.objs.size + 2 := by rw [Heap.size_push, q1]
  have q3 : (m3 s.heap t l).objs.size = s.heap.objs.size + 3 := by rw [Heap.size_push, q2]
  have q4 : (m4 s.heap t l).objs.size = s.heap.objs.size + 4 := by rw [Heap.size_push, q3]
  have e5 : (m5 s.heap t l).get? (m4 s.heap t l).objs.size = some _ := Heap.get?_push_size _ rfl
  have e4 : (m5 s.heap t l).get? (m3 s.heap t l).objs.size = some _ := Heap.get?_push_of_some _ (Heap.get?_push_size _ rfl)
  have e3 : (m5 s.heap t l).get? (m2 s.heap t l).objs.size = some _ := Heap.get?_push_of_some _ (Heap.get?_push_of_some _ (Heap.get?_push_size _ rfl))
  have e2 : (m5 s.heap t l).get? (m1 s.heap t).objs.size = some _ := Heap.get?_push_of_some _ (Heap.get?_push_of_some _ (Heap.get?_push_of_some _ (Heap.get?_push_size _ rfl)))
  have e1 : (m5 s.heap t l).get? s.heap.objs.size = some _ := Heap.get?_push_of_some _ (Heap.get?_push_of_some _ (Heap.get?_push_of_some _ (Heap.get?_push_of_some _ (Heap.get?_push_size _ rfl))))
  show _ ∧ _
  rw [q2, q3, q4] at e5
  rw [q1, q2] at e3
  rw [q3] at e4
  rw [q1] at e2
  rw [q4]
  exact ⟨⟨_, e5, rfl⟩, fin _ e5 e3 e4 ⟨_, e1, rfl, rfl⟩ ⟨_, e2, rfl, rfl⟩ fun c o q => Heap.get?_push_of_some _ (Heap.get?_push_of_some _ (Heap.get?_push_of_some _ (Heap.get?_push_of_some _ (Heap.get?_push_of_some _ q))))⟩
end
end Zm
namespace L2
open PySem PySem.Spec PyProof.Rows
/-- the tuple at a and the list at b as they stand at each turn, the items in new pairs -/
def ItM (K : PySem.W.Frag) (a b : Addr) : It :=
  ⟨fun i H => ∃ (xs ys : List V) (x y : V), SqT K H a xs ∧ SqL K H b ys ∧ xs[i]? = some x ∧ ys[i]? = some y,
    fun i H v H' => ∃ T x y, v = .ref T ∧ H T = none ∧ H' = upd H T (.tup [x, y]) ∧ (∀ xs, SqT K H a xs → xs[i]? = some x) ∧ ∀ ys, SqL K H b ys → ys[i]? = some y,
    fun i H => ∃ xs ys : List V, SqT K H a xs ∧ SqL K H b ys ∧ (xs.length ≤ i ∨ ys.length ≤ i)⟩
theorem turn_mix {P : Program} {w : World} {K : PySem.W.Frag} {elts : List Expr} {kk : Nat} {tpos : Pos} {a b z TI TO j1 j2 : Addr} (ap : ZipApart z TI TO j1 j2 a b) :
    Turn P w K (.Tuple elts kk tpos) (ItM K a b) [z, TI, TO, j1, j2] z (fun i h => IsZip h z TI TO .none ∧ IsPair h TI (.ref j1) (.ref j2) ∧ (∃ x y, IsPair h TO x y) ∧ h.IsTupleIter j1 a i ∧ h.IsListIter j2 b i) where
  mem := by simp
  obj := fun i h st c hc => by
    obtain ⟨kz, ki, ⟨x, y, ko⟩, ⟨o1, e1, _, d1⟩, ⟨o2, e2, _, d2⟩⟩ := st
    rcases (show c = z ∨ c = TI ∨ c = TO ∨ c = j1 ∨ c = j2 by simpa using hc) with rfl | rfl | rfl | rfl | rfl
    · exact ⟨_, kz, fun v q => nomatch q⟩
    · exact ⟨_, ki, fun v q => nomatch q⟩
    · exact ⟨_, ko, fun v q => nomatch q⟩
    · exact ⟨o1, e1, fun v q => by rw [d1] at q; cases q⟩
    · exact ⟨o2, e2, fun v q => by rw [d2] at q; cases q⟩
  keep := fun i h h' st k => by
    obtain ⟨kz, ki, ⟨x, y, ko⟩, t1, t2⟩ := st
    exact ⟨k z (by simp) _ kz, k TI (by simp) _ ki, ⟨x, y, k TO (by simp) _ ko⟩, t1.at fun o q => k j1 (by simp) o q, t2.at fun o q => k j2 (by simp) o q⟩
  item := by
    intro X hP hw hK hc i pins s σ H E I hf st hg
    subst hP hw hK
    obtain ⟨kz, ki, ⟨x0, y0, ko⟩, t1, t2⟩ := st
    obtain ⟨xs, ys, x, y, hqx, hqy, hx, hy⟩ := hg
    obtain ⟨its, rv, pl, _⟩ := I.tuple hqx
    obtain ⟨its2, rv2, pl2, _⟩ := I.list hqy
    obtain ⟨u, hu, ru⟩ := rv.get hx
    obtain ⟨u2, hu2, ru2⟩ := rv2.get hy
    have lz : z < s.heap.objs.size := Heap.lt_size kz
    have b1 : j1 < s.heap.objs.size := by
      obtain ⟨_, e, _⟩ := t1
      exact Heap.lt_size e
    have b2 : j2 < s.heap.objs.size := by
      obtain ⟨_, e, _⟩ := t2
      exact Heap.lt_size e
    have lows : ∀ c ∈ [z, TI, TO, j1, j2], c < s.heap.objs.size := fun c hcm => by
      rcases (show c = z ∨ c = TI ∨ c = TO ∨ c = j1 ∨ c = j2 by simpa using hcm) with rfl | rfl | rfl | rfl | rfl
      · exact lz
      · exact Heap.lt_size ki
      · exact Heap.lt_size ko
      · exact b1
      · exact b2
    refine Zm.item2 ap kz ki ko (x := u) (y := u2) (Zm.gives_t t1 (show s.heap.IsTuple a its.toArray from pl) (by simpa using hu)) (Zm.gives_l t2 pl2.isList (by simpa using hu2)) (fun g g' q k => q.at fun o e => k o e) (fun g g' q k => q.at fun o e => k o e) b1 b2 fun g kz' ko' t1' t2' hT hsz hk => ?_
    refine ⟨_, rfl, wpAny_letOwnedTupleGo_zip (s := { s with heap := g }) kz' fun g2 kz2 sb => ?_⟩
    have hT2 : g2.get? s.heap.objs.size = some { cls := .type "tuple", data := .seq #[u, u2] } := (sb.2 _ (Nat.ne_of_gt lz)).trans hT
    have fresh : ObjOk X.prog X.w (upd H s.heap.objs.size (.tup [x, y])) g2 s.heap.objs.size (.tup [x, y]) := ⟨by show 2 ≤ sizeLine; decide, [u, u2], .cons ru (.cons ru2 .nil), ⟨_, hT2, rfl, _, rfl⟩⟩
    have I1 : Inv X pins σ (upd H s.heap.objs.size (.tup [x, y])) { s with heap := g2 } :=
      I.turnedNew (t' := s.toks) (ch := [z, TI, TO, j1, j2]) (fun c o nm q => (sb.2 c (fun e => nm (by simp [e]))).trans (hk c o (fun e => nm (by simp [e])) (fun e => nm (by simp [e])) (fun e => nm (by simp [e])) (fun e => nm (by simp [e])) q)) hf (Nat.le_refl _) fresh
    refine ⟨.ref s.heap.objs.size, _, I1, rfl, ⟨_, x, y, rfl, I.hok.fresh (Nat.le_refl _), rfl, fun l hl => by rw [I.tuple_inj hl hqx]; exact hx, fun l hl => by rw [I.list_inj hl hqy]; exact hy⟩, ⟨kz2, (sb.2 _ ap.TIz).trans (hk _ _ ap.TIz ap.TITO ap.TIi1 ap.TIi2 ki), ⟨u, u2, (sb.2 _ ap.TOz).trans ko'⟩, t1'.at fun o q => (sb.2 _ ap.i1z).trans q, t2'.at fun o q => (sb.2 _ ap.i2z).trans q⟩, fun c hcm => ?_⟩
    rw [upd_ne (Nat.ne_of_lt (lows c hcm))]
    exact (hf c hcm).1
  done := by
    intro X hP hw hK hc i pins s σ H E I hf st hg
    subst hP hw hK
    obtain ⟨kz, ki, ⟨x0, y0, ko⟩, t1, t2⟩ := st
    obtain ⟨xs, ys, hqx, hqy, hend⟩ := hg
    obtain ⟨its, rv, pl, _⟩ := I.tuple hqx
    obtain ⟨its2, rv2, pl2, _⟩ := I.list hqy
    have l1 := rv.length
    have l2 := rv2.length
    have hd := I.ok.hd hc
    have how : Zm.Ends X.prog X.w j1 a s.heap ∨ ((∃ x In, Zm.Gives X.prog X.w j1 a s.heap x In) ∧ Zm.Ends X.prog X.w j2 b s.heap) := by
      rcases Nat.lt_or_ge i its.length with hlt | hge
      · refine .inr ⟨⟨its[i], _, Zm.gives_t t1 (show s.heap.IsTuple a its.toArray from pl) (by simp [hlt])⟩, Zm.ends_l t2 pl2.isList (by simp; omega)⟩
      · exact .inl (Zm.ends_t t1 (show s.heap.IsTuple a its.toArray from pl) (by simp; omega))
    exact Zm.end2 hd ap kz ki ko how fun g hk => ⟨rfl, I.turnedL (t' := s.toks) (ch := [z, TI, TO, j1, j2]) (fun c o nm q => hk c o (fun e => nm (by simp [e])) (fun e => nm (by simp [e])) (fun e => nm (by simp [e])) (fun e => nm (by simp [e])) q) hf⟩
  self := fun A i s Q E st h => by
    obtain ⟨kz, _⟩ := st
    exact wpAny_pyIter_zip kz h
theorem walk_mix {K : PySem.W.Frag} {a b : Addr} {xs ys : List V} {n : Nat} (hn : n = min xs.length ys.length) : Walk (ItM K a b) n (fun H => SqT K H a xs ∧ SqL K H b ys) (YPair (fun i => xs[i]?) (fun i => ys[i]?)) := by
  subst hn
  refine ⟨fun i _ hi q => ?_, fun _ q => ⟨xs, ys, q.1, q.2, by omega⟩, fun i H v H' _ q y => ?_⟩
  · have f1 : i < xs.length := by omega
    have f2 : i < ys.length := by omega
    exact ⟨xs, ys, xs[i], ys[i], q.1, q.2, by simp [f1], by simp [f2]⟩
  · obtain ⟨T, x, z, f1, f2, f3, f4, f5⟩ := y
    exact ⟨T, x, z, f1, f2, f3, f4 xs q.1, f5 ys q.2⟩
/-- what stood at a as a list or a tuple stands there still -/
def Stands (H1 : Hp) (a : Addr) (H : Hp) : Prop := ∀ o, H1 a = some o → H a = some o
theorem Stands.l {K : PySem.W.Frag} {H1 H : Hp} {a : Addr} {xs : List V} (h : Stands H1 a H) (q : SqL K H1 a xs) : SqL K H a xs := q.elim (fun q => .inl (q.elim (fun q => .inl (h _ q)) fun ⟨o, q⟩ => .inr ⟨o, h _ q⟩)) .inr
theorem Stands.t {K : PySem.W.Frag} {H1 H : Hp} {a : Addr} {xs : List V} (h : Stands H1 a H) (q : SqT K H1 a xs) : SqT K H a xs := q.elim (fun q => .inl (q.elim (fun q => .inl (h _ q)) fun ⟨o, q⟩ => .inr ⟨o, h _ q⟩)) .inr
/-- zip of a list or a tuple and a list -/
def iZipM (K : PySem.W.Frag) (ta : TA) : TI := fun σ H R => ta σ H fun vs H1 => ∃ a b xs ys, vs = [.ref a, .ref b] ∧ SqL K H1 b ys ∧ (SqL K H1 a xs ∨ SqT K H1 a xs) ∧ ∀ J, Walk J (min xs.length ys.length) (fun H => Stands H1 a H ∧ SqL K H b ys) (YPair (fun i => xs[i]?) (fun i => ys[i]?)) → R J H1
theorem pi_zipM {X : Cx} {e e2 : Expr} {ta : TA} {p pos tpos : Pos} {elts : List Expr} {kk : Nat} (hg : Gl X "zip") (hm : X.mg "zip" = none) (ha : PA X [e, e2] ta) (hs : starEach [e, e2] X.env = (false, eval e X.env) :: starEach [e2] X.env := by rfl) (hpl : (backTo pos (starEach [e2] X.env)).any (·.1) = false := by rfl) :
    PI X (.Tuple elts kk tpos) (.Call (.Name "zip" p) [e, e2] [] pos) (iZipM X.K ta) := by
  refine ⟨fun pins s σ H R I h => ?_⟩
  refine Call_ (ld_blt I hg hm PyProof.Rows.boot_zip (PyProof.Rows.callWith_type1 (thn (ha.run pos pins s σ H _ I h) fun us s1 ⟨vs, H1, I1, r1, a, b, xs, ys, ex, hqy, q1, q⟩ => ?_) hs hpl))
  subst ex
  cases r1 with
  | cons r rr =>
    cases rr with
    | cons r2 rr =>
      cases rr
      cases r
      cases r2
      have five : ∀ c, c ∈ [s1.heap.objs.size + 4, s1.heap.objs.size + 2, s1.heap.objs.size + 3, s1.heap.objs.size, s1.heap.objs.size + 1] → FpOk X pins H1 c := fun c hcm => by
        have le : s1.heap.objs.size ≤ c := by
          simp only [List.mem_cons, List.not_mem_nil, or_false] at hcm
          have hcm' : c = s1.heap.objs.size + 4 ∨ c = s1.heap.objs.size + 2 ∨ c = s1.heap.objs.size + 3 ∨ c = s1.heap.objs.size ∨ c = s1.heap.objs.size + 1 := hcm
          rcases hcm' with e | e | e | e | e <;> (rw [e]; first | exact Nat.le_add_right _ _ | exact Nat.le_refl _)
        exact I1.fpOk le (I1.hok.fresh le)
      obtain ⟨its2, rv2, p2, _⟩ := I1.list hqy
      rcases q1 with hqx | hqx
      · obtain ⟨its, rv, p1, _⟩ := I1.list hqx
        refine call_zip_2 p1.isList p2.isList fun g kz ki ko t1 t2 sz hk => wpAny_pyIter_zip kz ?_
        exact ⟨s1.heap.objs.size + 4, [s1.heap.objs.size + 4, s1.heap.objs.size + 2, s1.heap.objs.size + 3, s1.heap.objs.size, s1.heap.objs.size + 1], _, _, H1, rfl, I1.kept (t' := s1.toks) hk, turn_zip (PySem.W.ktu_apart s1.heap.objs.size a b p1.lt p2.lt), ⟨kz, ki, ⟨_, _, ko⟩, t1, t2⟩, five, q _ ((walk_zip rfl).mono (fun H h => ⟨h.1.l hqx, h.2⟩) fun _ _ _ _ _ _ h => h)⟩
      · obtain ⟨its, rv, p1, _⟩ := I1.tuple hqx
        obtain ⟨o1, ho1, _⟩ := id p1
        refine Zm.call_tl (show s1.heap.IsTuple a its.toArray from p1) p2.isList fun g kz ki ko t1 t2 hk => wpAny_pyIter_zip kz ?_
        exact ⟨s1.heap.objs.size + 4, [s1.heap.objs.size + 4, s1.heap.objs.size + 2, s1.heap.objs.size + 3, s1.heap.objs.size, s1.heap.objs.size + 1], _, _, H1, rfl, I1.kept (t' := s1.toks) hk, turn_mix (PySem.W.ktu_apart s1.heap.objs.size a b (Heap.lt_size ho1) p2.lt), ⟨kz, ki, ⟨_, _, ko⟩, t1, t2⟩, five, q _ ((walk_mix rfl).mono (fun H h => ⟨h.1.t hqx, h.2⟩) fun _ _ _ _ _ _ h => h)⟩
/-- a walk over a list or a tuple -/
def iSeq (K : PySem.W.Frag) (te : TE) : TI := fun σ H R => te σ H fun x H1 => ∃ a xs, x = .ref a ∧ (SqL K H1 a xs ∨ SqT K H1 a xs) ∧ ∀ J, Walk J xs.length (Stands H1 a) (YAt xs) → R J H1
theorem pi_seq {X : Cx} {tg e : Expr} {te : TE} (he : PE X e te) : PI X tg e (iSeq X.K te) := by
  refine ⟨fun pins s σ H R I h => ?_⟩
  refine thn (he.run pins s σ H _ I h) fun v s1 ⟨x, H1, I1, r1, a, xs, ex, q1, q⟩ => ?_
  subst ex
  cases r1
  have one : ∀ b ∈ [s1.heap.objs.size], FpOk X pins H1 b := fun b hb => by
    rw [List.mem_singleton.mp hb]
    exact I1.fpOk (Nat.le_refl _) (I1.hok.fresh (Nat.le_refl _))
  rcases q1 with hq | hq
  · obtain ⟨its, rv, pl, _⟩ := I1.list hq
    exact wpAny_pyIter_list pl.isList ⟨s1.heap.objs.size, [s1.heap.objs.size], _, _, H1, rfl, I1.kept (t' := s1.toks) fun b o e => Heap.get?_push_of_some _ e, turn_list a _, ⟨_, Heap.get?_push_size _ rfl, rfl, rfl⟩, one, q _ (walk_list.mono (fun H h => h.l hq) fun _ _ _ _ _ _ h => h)⟩
  · obtain ⟨its, rv, pl, _⟩ := I1.tuple hq
    exact wpAny_pyIter_tuple (show s1.heap.IsTuple a its.toArray from pl) ⟨s1.heap.objs.size, [s1.heap.objs.size], _, _, H1, rfl, I1.kept (t' := s1.toks) fun b o e => Heap.get?_push_of_some _ e, turn_tuple a _, ⟨_, Heap.get?_push_size _ rfl, rfl, rfl⟩, one, q _ (walk_tup.mono (fun H h => h.t hq) fun _ _ _ _ _ _ h => h)⟩
end L2
/-! list(zip(tuple, list, list)). -/
namespace Zl
open PySem PySem.AutoSeq1 Zm
/-- a zip of three, whatever its first two fields say -/
abbrev Zip3 (h : Heap) (z TI TO : Addr) (f0 f1 : Value) : Prop := h.get? z = some { cls := .type "zip", dict := none, data := .fields #[f0, f1, .bool false, .ref TI, .ref TO], slots := #[] }
structure Apart3 (z TI TO j1 j2 j3 b1 b2 b3 : Addr) : Prop where
  TIz : TI ≠ z
  TOz : TO ≠ z
  j1z : j1 ≠ z
  j2z : j2 ≠ z
  j3z : j3 ≠ z
  TITO : TI ≠ TO
  TI1 : TI ≠ j1
  TI2 : TI ≠ j2
  TI3 : TI ≠ j3
  TO1 : TO ≠ j1
  TO2 : TO ≠ j2
  TO3 : TO ≠ j3
  j12 : j1 ≠ j2
  j13 : j1 ≠ j3
  j23 : j2 ≠ j3
  b1z : b1 ≠ z
  b2z : b2 ≠ z
  b3z : b3 ≠ z
  b1O : b1 ≠ TO
  b2O : b2 ≠ TO
  b3O : b3 ≠ TO
  b11 : b1 ≠ j1
  b12 : b1 ≠ j2
  b13 : b1 ≠ j3
  b21 : b2 ≠ j1
  b22 : b2 ≠ j2
  b23 : b2 ≠ j3
  b31 : b3 ≠ j1
  b32 : b3 ≠ j2
  b33 : b3 ≠ j3
section
variable {P : Program} {w : World} {A : Around} {Er : Value → Shared → Prop} {s : Shared}
theorem alive {M : Model} {a : Addr} {Q : Option Obj → Shared → Prop} (h : Q (s.heap.get? a) s) : wpAny M A (loadIfAlive a) Q Er s := fun _ _ _ => h
theorem later {z TI TO j1 j2 j3 b1 b2 b3 T : Addr} {x y u f1 : Value} {o : Obj} {Z : Value → Shared → Prop} {In1 In2 In3 : Heap → Prop} (ap : Apart3 z TI TO j1 j2 j3 b1 b2 b3) (kz : Zip3 s.heap z TI TO (rawInt T) f1) (kT : s.heap.get? T = some o) (ki : IsTupOf3 s.heap TI (.ref j1) (.ref j2) (.ref j3))
    (g1 : Gives P w j1 b1 s.heap x In1) (g2 : Gives P w j2 b2 s.heap y In2) (g3 : Gives P w j3 b3 s.heap u In3) (y1 : Stays j1 In1) (y2 : Stays j2 In2) (y3 : Stays j3 In3)
    (fin : ∀ g, (∃ f, Zip3 g z TI TO (rawInt T) f) → In1 g → In2 g → In3 g → g.get? s.heap.objs.size = some { cls := .type "tuple", data := .seq #[x, y, u] } → 
      (∀ c o, c ≠ z → c ≠ j1 → c ≠ j2 → c ≠ j3 → s.heap.get? c = some o → g.get? c = some o) → Z (.ref s.heap.objs.size) { s with heap := g }) :
    wpAny (model P w) A (Builtin.«zip.__next__» ⟨[.ref z], []⟩) (fun f s' => ∃ v, f = .done (.ret v) ∧ Z v s') Er s := by
  obtain ⟨a0, a1, a2, a3, a4⟩ := s
  show wpAny _ _ (field (.ref z) 2 >>= _) _ _ ⟨a0, a1, a2, a3, a4⟩
  refine wpAny_bind (wpAny_field kz rfl (x := .bool false) rfl ?_)
  show wpAny _ _ (field (.ref z) 3 >>= _) _ _ ⟨a0, a1, a2, a3, a4⟩
  refine wpAny_bind (wpAny_field kz rfl (x := .ref TI) rfl (wpAny_bind (wpAny_seqItems ki rfl ?_)))
  show wpAny _ _ (Builtin.SmallTypes.ownedTupleIsFree (.ref z) >>= _) _ _ ⟨a0, a1, a2, a3, a4⟩
  have free : ∀ {A' : Around} {Q : Bool → Shared → Prop} {E' : Value → Shared → Prop}, (∀ g, (∃ f, Zip3 g z TI TO (rawInt T) f) → Heap.SameBut z a0 g → Q false ⟨g, a1, a2, a3, a4⟩) → wpAny (model P w) A' (Builtin.SmallTypes.ownedTupleIsFree (.ref z)) Q E' ⟨a0, a1, a2, a3, a4⟩ := fun {A' Q E'} q => by
    unfold Builtin.SmallTypes.ownedTupleIsFree
    refine wpAny_bind (wpAny_field kz rfl (x := rawInt T) rfl ?_)
    show wpAny _ _ (loadIfAlive (Int.toNat (T : Int)) >>= _) _ _ _
    refine wpAny_bind (alive ?_)
    rw [show a0.get? (Int.toNat (T : Int)) = some o from kT]
    show wpAny _ _ (field (.ref z) 1 >>= _) _ _ _
    refine wpAny_bind (wpAny_field kz rfl (x := f1) rfl ?_)
    refine wpAny_ite_split (fun _ => ?_) (fun _ => ?_)
    · refine wpAny_bind (wpAny_setField_rec kz (by simp) fun g kg mg => wpAny_pure (q g ⟨_, kg⟩ mg))
    · exact wpAny_pure (q a0 ⟨_, kz⟩ (Heap.SameBut.refl _ _))
  refine wpAny_bind (free fun h1 kz1 m1 => ?_)
  simp only [Bool.false_eq_true, if_false]
  refine wpAny_bind ?_
  simp only [← Array.forIn_toList, List.forIn_cons, List.forIn_nil]
  have m1' : Heap.SameBut z a0 h1 := m1
  obtain ⟨f2, kz1⟩ := kz1
  refine wpAny_bind (wpAny_bind (wpAny_holding ?_))
  show wpAny _ _ (Builtin.SmallTypes.nextOf (.ref j1) >>= _) _ _ ⟨h1, a1, a2, a3, a4⟩
  refine wpAny_bind (g1 _ _ _ ⟨h1, a1, a2, a3, a4⟩ (fun o q => m1'.extBut _ _ ap.j1z q) (fun o q => m1'.extBut _ _ ap.b1z q) fun h2 i2 m2 => wpAny_pure (wpAny_pure ?_))
  have m2' : Heap.SameBut j1 h1 h2 := m2
  refine wpAny_bind (wpAny_bind (wpAny_holding ?_))
  show wpAny _ _ (Builtin.SmallTypes.nextOf (.ref j2) >>= _) _ _ ⟨h2, a1, a2, a3, a4⟩
  refine wpAny_bind (g2 _ _ _ ⟨h2, a1, a2, a3, a4⟩ (fun o q => m2'.extBut _ _ ap.j12.symm (m1'.extBut _ _ ap.j2z q)) (fun o q => m2'.extBut _ _ ap.b21 (m1'.extBut _ _ ap.b2z q)) fun h3 i3 m3 => wpAny_pure (wpAny_pure ?_))
  have m3' : Heap.SameBut j2 h2 h3 := m3
  refine wpAny_bind (wpAny_bind (wpAny_holding ?_))
  show wpAny _ _ (Builtin.SmallTypes.nextOf (.ref j3) >>= _) _ _ ⟨h3, a1, a2, a3, a4⟩
  refine wpAny_bind (g3 _ _ _ ⟨h3, a1, a2, a3, a4⟩ (fun o q => m3'.extBut _ _ ap.j23.symm (m2'.extBut _ _ ap.j13.symm (m1'.extBut _ _ ap.j3z q))) (fun o q => m3'.extBut _ _ ap.b32 (m2'.extBut _ _ ap.b31 (m1'.extBut _ _ ap.b3z q))) fun h4 i4 m4 => wpAny_pure (wpAny_pure (wpAny_pure ?_)))
  have m4' : Heap.SameBut j3 h3 h4 := m4
  refine wpAny_bind (wpAny_newTuple (hsz := by show 3 ≤ sizeLine; decide) ?_)
  have big : h4.objs.size = a0.objs.size := by rw [m4'.1, m3'.1, m2'.1, m1'.1]
  have kz4 : Zip3 h4 z TI TO (rawInt T) f2 := m4'.extBut _ _ ap.j3z.symm (m3'.extBut _ _ ap.j2z.symm (m2'.extBut _ _ ap.j1z.symm kz1))
  have up : ∀ c o, c ≠ z → c ≠ j1 → c ≠ j2 → c ≠ j3 → a0.get? c = some o → h4.get? c = some o := fun c o c1 c2 c3 c4 q => m4'.extBut _ _ c4 (m3'.extBut _ _ c3 (m2'.extBut _ _ c2 (m1'.extBut _ _ c1 q)))
  have e1 : In1 h4 := y1 _ _ (y1 _ _ i2 fun o q => m3'.extBut _ _ ap.j12 q) fun o q => m4'.extBut _ _ ap.j13 q
  have e2 : In2 h4 := y2 _ _ i3 fun o q => m4'.extBut _ _ ap.j23 q
  refine wpAny_pure ⟨_, rfl, ?_⟩
  show Z (.ref h4.objs.size) _
  have nt : (h4.push { cls := .type "tuple", data := .seq #[x, y, u] }).get? h4.objs.size = some { cls := .type "tuple", data := .seq #[x, y, u] } := Heap.get?_push_size _ rfl
  rw [big] at nt ⊢
  exact fin _ ⟨f2, Heap.get?_push_of_some _ kz4⟩ (y1 _ _ e1 fun o q => Heap.get?_push_of_some _ q) (y2 _ _ e2 fun o q => Heap.get?_push_of_some _ q) (y3 _ _ i4 fun o q => Heap.get?_push_of_some _ q) nt fun c o c1 c2 c3 c4 q => Heap.get?_push_of_some _ (up c o c1 c2 c3 c4 q)
theorem notFree {z TI TO T : Addr} {f1 : Value} {o : Obj} {A' : Around} {E' : Value → Shared → Prop} {a0 : Heap} {a1 : Array GenState} {a2 : Drawn} {a3 : Tok} {a4 : OsState} {Q : Bool → Shared → Prop} (kz : Zip3 a0 z TI TO (rawInt T) f1) (kT : a0.get? T = some o)
    (q : ∀ g, (∃ f, Zip3 g z TI TO (rawInt T) f) → Heap.SameBut z a0 g → Q false ⟨g, a1, a2, a3, a4⟩) : wpAny (model P w) A' (Builtin.SmallTypes.ownedTupleIsFree (.ref z)) Q E' ⟨a0, a1, a2, a3, a4⟩ := by
  unfold Builtin.SmallTypes.ownedTupleIsFree
  refine wpAny_bind (wpAny_field kz rfl (x := rawInt T) rfl ?_)
  show wpAny _ _ (loadIfAlive (Int.toNat (T : Int)) >>= _) _ _ _
  refine wpAny_bind (alive ?_)
  show wpAny _ _ (if (a0.get? (Int.toNat (T : Int))).isNone = true then pure true else _) _ _ _
  rw [show a0.get? (Int.toNat (T : Int)) = some o from kT]
  show wpAny _ _ (field (.ref z) 1 >>= _) _ _ _
  refine wpAny_bind (wpAny_field kz rfl (x := f1) rfl ?_)
  refine wpAny_ite_split (fun _ => ?_) (fun _ => ?_)
  · exact wpAny_bind (wpAny_setField_rec kz (by simp) fun g kg mg => wpAny_pure (q g ⟨_, kg⟩ mg))
  · exact wpAny_pure (q a0 ⟨_, kz⟩ (Heap.SameBut.refl _ _))
theorem last {z TI TO j1 j2 j3 b1 T : Addr} {f1 : Value} {o : Obj} {Z : Fin → Shared → Prop} (n1z : j1 ≠ z) (nbz : b1 ≠ z) (hh : A.handled = none) (kz : Zip3 s.heap z TI TO (rawInt T) f1) (kT : s.heap.get? T = some o) (ki : IsTupOf3 s.heap TI (.ref j1) (.ref j2) (.ref j3)) (n1 : Ends P w j1 b1 s.heap)
    (fin : ∀ g e, (∀ c o, c ≠ z → c ≠ j1 → s.heap.get? c = some o → g.get? c = some o) → (∃ o, g.get? e = some o ∧ o.cls = .type "StopIteration") → Er (.ref e) { s with heap := g }) :
    wpAny (model P w) A (Builtin.«zip.__next__» ⟨[.ref z], []⟩) Z Er s := by
  obtain ⟨a0, a1, a2, a3, a4⟩ := s
  show wpAny _ _ (field (.ref z) 2 >>= _) _ _ ⟨a0, a1, a2, a3, a4⟩
  refine wpAny_bind (wpAny_field kz rfl (x := .bool false) rfl ?_)
  show wpAny _ _ (field (.ref z) 3 >>= _) _ _ ⟨a0, a1, a2, a3, a4⟩
  refine wpAny_bind (wpAny_field kz rfl (x := .ref TI) rfl (wpAny_bind (wpAny_seqItems ki rfl ?_)))
  show wpAny _ _ (Builtin.SmallTypes.ownedTupleIsFree (.ref z) >>= _) _ _ ⟨a0, a1, a2, a3, a4⟩
  refine wpAny_bind (notFree kz kT fun h1 kz1 m1 => ?_)
  simp only [Bool.false_eq_true, if_false]
  refine wpAny_bind ?_
  simp only [← Array.forIn_toList, List.forIn_cons, List.forIn_nil]
  have m1' : Heap.SameBut z a0 h1 := m1
  refine wpAny_bind (wpAny_bind (wpAny_holding ?_))
  show wpAny _ _ (Builtin.SmallTypes.nextOf (.ref j1) >>= _) _ _ ⟨h1, a1, a2, a3, a4⟩
  refine wpAny_bind (n1 _ _ _ ⟨h1, a1, a2, a3, a4⟩ hh (fun o q => m1'.extBut _ _ n1z q) (fun o q => m1'.extBut _ _ nbz q) fun h2 e m2 he => ?_)
  exact fin h2 e (fun c o c1 c2 q => m2 _ _ c2 (m1'.extBut _ _ c1 q)) he
theorem last0 {z TI TO j1 j2 j3 b1 : Addr} {Z : Fin → Shared → Prop} (n1z : j1 ≠ z) (nbz : b1 ≠ z) (hh : A.handled = none) (kz : Zip3 s.heap z TI TO .none (.bool false)) (ki : IsTupOf3 s.heap TI (.ref j1) (.ref j2) (.ref j3)) (n1 : Ends P w j1 b1 s.heap)
    (fin : ∀ g e, (∀ c o, c ≠ z → c ≠ j1 → s.heap.get? c = some o → g.get? c = some o) → (∃ o, g.get? e = some o ∧ o.cls = .type "StopIteration") → Er (.ref e) { s with heap := g }) :
    wpAny (model P w) A (Builtin.«zip.__next__» ⟨[.ref z], []⟩) Z Er s := by
  obtain ⟨a0, a1, a2, a3, a4⟩ := s
  show wpAny _ _ (field (.ref z) 2 >>= _) _ _ ⟨a0, a1, a2, a3, a4⟩
  refine wpAny_bind (wpAny_field kz rfl (x := .bool false) rfl ?_)
  show wpAny _ _ (field (.ref z) 3 >>= _) _ _ ⟨a0, a1, a2, a3, a4⟩
  refine wpAny_bind (wpAny_field kz rfl (x := .ref TI) rfl (wpAny_bind (wpAny_seqItems ki rfl ?_)))
  show wpAny _ _ (Builtin.SmallTypes.ownedTupleIsFree (.ref z) >>= _) _ _ ⟨a0, a1, a2, a3, a4⟩
  refine wpAny_bind ?_
  unfold Builtin.SmallTypes.ownedTupleIsFree
  refine wpAny_bind (wpAny_field kz rfl (x := .none) rfl (wpAny_pure ?_))
  simp only [if_true]
  refine wpAny_bind (wpAny_rule (wpAny_bind (wpAny_field kz rfl (x := .ref TO) rfl (wpAny_bind (wpAny_setField_rec kz (by simp) fun h1 kz1 m1 => ?_)))))
  have m1' : Heap.SameBut z a0 h1 := m1
  have kz1' : Zip3 h1 z TI TO .ellipsis (.bool false) := kz1
  refine wpAny_bind ?_
  simp only [List.zipIdx_cons, List.zipIdx_nil, List.forIn_cons, List.forIn_nil]
  refine wpAny_bind (wpAny_bind (wpAny_onRaise ?_))
  show wpAny _ _ (Builtin.SmallTypes.nextOf (.ref j1) >>= _) _ _ ⟨h1, a1, a2, a3, a4⟩
  refine wpAny_bind (n1 _ _ _ ⟨h1, a1, a2, a3, a4⟩ hh (fun o q => m1'.extBut _ _ n1z q) (fun o q => m1'.extBut _ _ nbz q) fun h2 e m2 he => ?_)
  have kz2 : Zip3 h2 z TI TO .ellipsis (.bool false) := m2 _ _ (Ne.symm n1z) kz1'
  obtain ⟨o, he1, he2⟩ := he
  have ez : e ≠ z := fun q => by
    have h : h2.get? e = some _ := q ▸ kz2
    rw [he1] at h
    cases h
    injection he2 with he2
    exact absurd he2 (by decide)
  refine wpAny_setField_rec kz2 (by simp) fun h3 kz3 m3 => ?_
  have m3' : Heap.SameBut z h2 h3 := m3
  exact fin h3 e (fun c o c1 c2 q => m3'.extBut _ _ c1 (m2 _ _ c2 (m1'.extBut _ _ c1 q))) ⟨o, m3'.extBut _ _ ez he1, he2⟩
theorem setO {T : Addr} {p q r x : Value} {k : Nat} {Q : Unit → Shared → Prop} (hT : IsTupOf3 s.heap T p q r) (h : ∀ g, g.get? T = some { cls := .type "tuple", data := .seq ((#[p, q, r] : Array Value).setIfInBounds k x) } → Heap.SameBut T s.heap g → Q () { s with heap := g }) :
    wpAny (model P w) A (updateSeq T (·.setIfInBounds k x)) Q Er s := by
  refine wpAny_updateSeq hT rfl (h _ ?_ (Heap.SameBut.update ..))
  rw [Heap.get?_update_self _ hT rfl]
  simp [Obj.mapSeq]
/-- the first turn: the zip's own tuple is free -/
theorem first {z TI TO j1 j2 j3 b1 b2 b3 : Addr} {x y u v1 v2 v3 : Value} {Z : Value → Shared → Prop} {In1 In2 In3 : Heap → Prop} (ap : Apart3 z TI TO j1 j2 j3 b1 b2 b3) (kz : Zip3 s.heap z TI TO .none (.bool false)) (ki : IsTupOf3 s.heap TI (.ref j1) (.ref j2) (.ref j3)) (ko : IsTupOf3 s.heap TO v1 v2 v3)
    (g1 : Gives P w j1 b1 s.heap x In1) (g2 : Gives P w j2 b2 s.heap y In2) (g3 : Gives P w j3 b3 s.heap u In3) (y1 : Stays j1 In1) (y2 : Stays j2 In2) (y3 : Stays j3 In3)
    (fin : ∀ g, Zip3 g z TI TO (rawInt s.heap.objs.size) (.bool false) → IsTupOf3 g TO x y u → In1 g → In2 g → In3 g → g.get? s.heap.objs.size = some { cls := .type "tuple", data := .seq #[x, y, u] } → 
      (∀ c o, c ≠ z → c ≠ TO → c ≠ j1 → c ≠ j2 → c ≠ j3 → s.heap.get? c = some o → g.get? c = some o) → Z (.ref s.heap.objs.size) { s with heap := g }) :
    wpAny (model P w) A (Builtin.«zip.__next__» ⟨[.ref z], []⟩) (fun f s' => ∃ v, f = .done (.ret v) ∧ Z v s') Er s := by
  obtain ⟨a0, a1, a2, a3, a4⟩ := s
  show wpAny _ _ (field (.ref z) 2 >>= _) _ _ ⟨a0, a1, a2, a3, a4⟩
  refine wpAny_bind (wpAny_field kz rfl (x := .bool false) rfl ?_)
  show wpAny _ _ (field (.ref z) 3 >>= _) _ _ ⟨a0, a1, a2, a3, a4⟩
  refine wpAny_bind (wpAny_field kz rfl (x := .ref TI) rfl (wpAny_bind (wpAny_seqItems ki rfl ?_)))
  show wpAny _ _ (Builtin.SmallTypes.ownedTupleIsFree (.ref z) >>= _) _ _ ⟨a0, a1, a2, a3, a4⟩
  refine wpAny_bind ?_
  unfold Builtin.SmallTypes.ownedTupleIsFree
  refine wpAny_bind (wpAny_field kz rfl (x := .none) rfl (wpAny_pure ?_))
  simp only [if_true]
  refine wpAny_bind (wpAny_rule (wpAny_bind (wpAny_field kz rfl (x := .ref TO) rfl (wpAny_bind (wpAny_setField_rec kz (by simp) fun h1 kz1 m1 => ?_)))))
  have m1' : Heap.SameBut z a0 h1 := m1
  have kz1' : Zip3 h1 z TI TO .ellipsis (.bool false) := kz1
  refine wpAny_bind ?_
  simp only [List.zipIdx_cons, List.zipIdx_nil, List.forIn_cons, List.forIn_nil]
  refine wpAny_bind (wpAny_bind (wpAny_onRaise ?_))
  show wpAny _ _ (Builtin.SmallTypes.nextOf (.ref j1) >>= _) _ _ ⟨h1, a1, a2, a3, a4⟩
  refine wpAny_bind (g1 _ _ _ ⟨h1, a1, a2, a3, a4⟩ (fun o q => m1'.extBut _ _ ap.j1z q) (fun o q => m1'.extBut _ _ ap.b1z q) fun h2 i2 m2 => wpAny_pure ?_)
  have m2' : Heap.SameBut j1 h1 h2 := m2
  have ko2 : IsTupOf3 h2 TO v1 v2 v3 := m2'.extBut _ _ ap.TO1 (m1'.extBut _ _ ap.TOz ko)
  refine wpAny_bind (wpAny_seqItems ko2 rfl (wpAny_bind (setO ko2 fun h3 ko3 m3 => wpAny_bind (wpAny_letGo (wpAny_pure ?_)))))
  have m3' : Heap.SameBut TO h2 h3 := m3
  have ko3' : IsTupOf3 h3 TO x v2 v3 := ko3
  refine wpAny_bind (wpAny_bind (wpAny_onRaise ?_))
  show wpAny _ _ (Builtin.SmallTypes.nextOf (.ref j2) >>= _) _ _ ⟨h3, a1, a2, a3, a4⟩
  refine wpAny_bind (g2 _ _ _ ⟨h3, a1, a2, a3, a4⟩ (fun o q => m3'.extBut _ _ ap.TO2.symm (m2'.extBut _ _ ap.j12.symm (m1'.extBut _ _ ap.j2z q))) (fun o q => m3'.extBut _ _ ap.b2O (m2'.extBut _ _ ap.b21 (m1'.extBut _ _ ap.b2z q))) fun h4 i4 m4 => wpAny_pure ?_)
  have m4' : Heap.SameBut j2 h3 h4 := m4
  have ko4 : IsTupOf3 h4 TO x v2 v3 := m4'.extBut _ _ ap.TO2 ko3'
  refine wpAny_bind (wpAny_seqItems ko4 rfl (wpAny_bind (setO ko4 fun h5 ko5 m5 => wpAny_bind (wpAny_letGo (wpAny_pure ?_)))))
  have m5' : Heap.SameBut TO h4 h5 := m5
  have ko5' : IsTupOf3 h5 TO x y v3 := ko5
  refine wpAny_bind (wpAny_bind (wpAny_onRaise ?_))
  show wpAny _ _ (Builtin.SmallTypes.nextOf (.ref j3) >>= _) _ _ ⟨h5, a1, a2, a3, a4⟩
  have up5 : ∀ c o, c ≠ z → c ≠ TO → c ≠ j1 → c ≠ j2 → a0.get? c = some o → h5.get? c = some o := fun c o c1 c2 c3 c4 q => m5'.extBut _ _ c2 (m4'.extBut _ _ c4 (m3'.extBut _ _ c2 (m2'.extBut _ _ c3 (m1'.extBut _ _ c1 q))))
  refine wpAny_bind (g3 _ _ _ ⟨h5, a1, a2, a3, a4⟩ (fun o q => up5 _ _ ap.j3z ap.TO3.symm ap.j13.symm ap.j23.symm q) (fun o q => up5 _ _ ap.b3z ap.b3O ap.b31 ap.b32 q) fun h6 i6 m6 => wpAny_pure ?_)
  have m6' : Heap.SameBut j3 h5 h6 := m6
  have ko6 : IsTupOf3 h6 TO x y v3 := m6'.extBut _ _ ap.TO3 ko5'
  refine wpAny_bind (wpAny_seqItems ko6 rfl (wpAny_bind (setO ko6 fun h7 ko7 m7 => wpAny_bind (wpAny_letGo (wpAny_pure (wpAny_pure ?_))))))
  have m7' : Heap.SameBut TO h6 h7 := m7
  have ko7' : IsTupOf3 h7 TO x y u := ko7
  refine wpAny_bind (wpAny_seqItems ko7' rfl (wpAny_bind (wpAny_newTuple ?_)))
  have big : h7.objs.size = a0.objs.size := by rw [m7'.1, m6'.1, m5'.1, m4'.1, m3'.1, m2'.1, m1'.1]
  have up7 : ∀ c o, c ≠ z → c ≠ TO → c ≠ j1 → c ≠ j2 → c ≠ j3 → a0.get? c = some o → h7.get? c = some o := fun c o c1 c2 c3 c4 c5 q => m7'.extBut _ _ c2 (m6'.extBut _ _ c5 (up5 c o c1 c2 c3 c4 q))
  have kz7 : Zip3 h7 z TI TO .ellipsis (.bool false) := m7'.extBut _ _ ap.TOz.symm (m6'.extBut _ _ ap.j3z.symm (m5'.extBut _ _ ap.TOz.symm (m4'.extBut _ _ ap.j2z.symm (m3'.extBut _ _ ap.TOz.symm (m2'.extBut _ _ ap.j1z.symm kz1')))))
  have in1 : In1 h7 := y1 _ _ (y1 _ _ (y1 _ _ (y1 _ _ (y1 _ _ i2 fun o q => m3'.extBut _ _ ap.TO1.symm q) fun o q => m4'.extBut _ _ ap.j12 q) fun o q => m5'.extBut _ _ ap.TO1.symm q) fun o q => m6'.extBut _ _ ap.j13 q) fun o q => m7'.extBut _ _ ap.TO1.symm q
  have in2 : In2 h7 := y2 _ _ (y2 _ _ (y2 _ _ i4 fun o q => m5'.extBut _ _ ap.TO2.symm q) fun o q => m6'.extBut _ _ ap.j23 q) fun o q => m7'.extBut _ _ ap.TO2.symm q
  have in3 : In3 h7 := y3 _ _ i6 fun o q => m7'.extBut _ _ ap.TO3.symm q
  have lz : z < h7.objs.size := Heap.lt_size kz7
  show wpAny _ _ (Builtin.SmallTypes.ownedTupleHandOut (.ref z) (.ref h7.objs.size) >>= _) _ _ _
  refine wpAny_bind ?_
  unfold Builtin.SmallTypes.ownedTupleHandOut
  have kz8 : Zip3 (h7.push { cls := .type "tuple", data := .seq #[x, y, u] }) z TI TO .ellipsis (.bool false) := Heap.get?_push_of_some _ kz7
  refine wpAny_bind (wpAny_setField_rec kz8 (by simp) fun h9 kz9 m9 => ?_)
  have kz9' : Zip3 h9 z TI TO (rawInt h7.objs.size) (.bool false) := kz9
  have m9' : Heap.SameBut z (h7.push { cls := .type "tuple", data := .seq #[x, y, u] }) h9 := m9
  refine wpAny_setField_rec kz9' (by simp) fun h10 kz10 m10 => ?_
  have kz10' : Zip3 h10 z TI TO (rawInt h7.objs.size) (.bool false) := kz10
  have m10' : Heap.SameBut z h9 h10 := m10
  have up : ∀ c o, c ≠ z → h7.get? c = some o → h10.get? c = some o := fun c o n q => m10'.extBut _ _ n (m9'.extBut _ _ n (Heap.get?_push_of_some _ q))
  have nt : h10.get? h7.objs.size = some { cls := .type "tuple", data := .seq #[x, y, u] } := m10'.extBut _ _ (Nat.ne_of_gt lz) (m9'.extBut _ _ (Nat.ne_of_gt lz) (Heap.get?_push_size _ rfl))
  rw [big] at kz10' nt
  refine wpAny_pure ⟨_, rfl, ?_⟩
  show Z (.ref h7.objs.size) _
  rw [big]
  exact fin h10 kz10' (up _ _ ap.TOz ko7') (y1 _ _ in1 fun o q => up _ o ap.j1z q) (y2 _ _ in2 fun o q => up _ o ap.j2z q) (y3 _ _ in3 fun o q => up _ o ap.j3z q) nt fun c o c1 c2 c3 c4 c5 q => up c o c1 (up7 c o c1 c2 c3 c4 c5 q)
end
end Zl
/-! list(zip(tuple, list, list)): the loop, and the rule. -/
namespace F
open PySem
theorem zip_no_len : typeLookup (.type "zip") "__len__" = pure none := by rw [typeLookup_type, builtinLookup_eq_fast]; kernel_rfl
theorem zip_no_hint : typeLookup (.type "zip") "__length_hint__" = pure none := by rw [typeLookup_type, builtinLookup_eq_fast]; kernel_rfl
end F
namespace L2
open PySem PySem.Spec PyProof.Rows Zm Zl
def ZSt (H : Hp) (z TI TO j1 j2 j3 a b c : Addr) (i : Nat) (g : Heap) : Prop :=
  ((i = 0 ∧ Zip3 g z TI TO .none (.bool false)) ∨ ∃ (T : Addr) (f1 : Value) (ws : List V), Zip3 g z TI TO (rawInt T) f1 ∧ H T = some (.tup ws)) ∧ IsTupOf3 g TI (.ref j1) (.ref j2) (.ref j3) ∧ (∃ v1 v2 v3, IsTupOf3 g TO v1 v2 v3) ∧ g.IsTupleIter j1 a i ∧ g.IsListIter j2 b i ∧ g.IsListIter j3 c i
theorem ZSt.kept {H H' : Hp} {z TI TO j1 j2 j3 a b c : Addr} {i : Nat} {g g' : Heap} (st : ZSt H z TI TO j1 j2 j3 a b c i g) (k : ∀ e ∈ [z, TO, TI, j1, j2, j3], ∀ o, g.get? e = some o → g'.get? e = some o) (h : ∀ T ws, H T = some (.tup ws) → H' T = some (.tup ws)) : ZSt H' z TI TO j1 j2 j3 a b c i g' := by
  obtain ⟨kz, ki, ⟨v1, v2, v3, ko⟩, t1, t2, t3⟩ := st
  refine ⟨?_, k TI (by simp) _ ki, ⟨v1, v2, v3, k TO (by simp) _ ko⟩, t1.at fun o q => k j1 (by simp) o q, t2.at fun o q => k j2 (by simp) o q, t3.at fun o q => k j3 (by simp) o q⟩
  rcases kz with ⟨e, kz⟩ | ⟨T, f1, ws, kz, hT⟩
  · exact .inl ⟨e, k z (by simp) _ kz⟩
  · exact .inr ⟨T, f1, ws, k z (by simp) _ kz, h _ _ hT⟩
section
variable {X : Cx} {pins : List (Addr × Obj)} {σ : L2.St} {H : Hp} {s : Shared} {A : Around} {z TI TO j1 j2 j3 a b c : Addr} {xs ys us : List V} {i : Nat}
theorem fp_upd {ch : List Addr} {T : Addr} {o : HO} (hf : ∀ e ∈ ch, FpOk X pins H e) (n : ∀ e ∈ ch, e ≠ T) : ∀ e ∈ ch, FpOk X pins (upd H T o) e := fun e he => ⟨by rw [upd_ne (n e he)]; exact (hf e he).1, (hf e he).2⟩
theorem zst_low (st : ZSt H z TI TO j1 j2 j3 a b c i s.heap) : ∀ e ∈ [z, TO, TI, j1, j2, j3], e < s.heap.objs.size := fun e he => by
  obtain ⟨kz, ki, ⟨v1, v2, v3, ko⟩, ⟨_, t1, _⟩, ⟨_, t2, _⟩, ⟨_, t3, _⟩⟩ := st
  rcases (show e = z ∨ e = TO ∨ e = TI ∨ e = j1 ∨ e = j2 ∨ e = j3 by simpa using he) with rfl | rfl | rfl | rfl | rfl | rfl
  · rcases kz with ⟨_, kz⟩ | ⟨_, _, _, kz, _⟩ <;> exact Heap.lt_size kz
  · exact Heap.lt_size ko
  · exact Heap.lt_size ki
  · exact Heap.lt_size t1
  · exact Heap.lt_size t2
  · exact Heap.lt_size t3
theorem zturn {x y u : V} {Q : Option Value → Shared → Prop} {E : Value → Shared → Prop} (ap : Apart3 z TI TO j1 j2 j3 a b c) (I : Inv X pins σ H s) (st : ZSt H z TI TO j1 j2 j3 a b c i s.heap) (hf : ∀ e ∈ [z, TO, TI, j1, j2, j3], FpOk X pins H e)
    (ha : SqT X.K H a xs) (hb : SqL X.K H b ys) (hc : SqL X.K H c us) (hx : xs[i]? = some x) (hy : ys[i]? = some y) (hu : us[i]? = some u)
    (fin : ∀ (T : Addr) (s' : Shared), Inv X pins σ (upd H T (.tup [x, y, u])) s' → H T = none → ZSt (upd H T (.tup [x, y, u])) z TI TO j1 j2 j3 a b c (i + 1) s'.heap → (∀ e ∈ [z, TO, TI, j1, j2, j3], FpOk X pins (upd H T (.tup [x, y, u])) e) → Q (some (.ref T)) s') : wpAny (model X.prog X.w) A (pyNext (.ref z)) Q E s := by
  obtain ⟨kz, ki, ⟨v1, v2, v3, ko⟩, t1, t2, t3⟩ := id st
  obtain ⟨ia, ra, pa, _⟩ := I.tuple ha
  obtain ⟨ib, rb, pb, _⟩ := I.list hb
  obtain ⟨ic, rc, pc, _⟩ := I.list hc
  obtain ⟨x', hx', rx⟩ := ra.get hx
  obtain ⟨y', hy', ry⟩ := rb.get hy
  obtain ⟨u', hu', ru⟩ := rc.get hu
  have low := zst_low st
  have kind : s.TypeIs (.ref z) "zip" := by
    rcases kz with ⟨_, kz⟩ | ⟨_, _, _, kz, _⟩ <;> exact ⟨_, kz, rfl⟩
  have done : ∀ g : Heap, ((∃ f, Zip3 g z TI TO (rawInt s.heap.objs.size) f) ∨ ∃ (T : Addr) (f : Value) (ws : List V), Zip3 g z TI TO (rawInt T) f ∧ H T = some (.tup ws)) → g.IsTupleIter j1 a (i + 1) → g.IsListIter j2 b (i + 1) → g.IsListIter j3 c (i + 1) → IsTupOf3 g TI (.ref j1) (.ref j2) (.ref j3) → (∃ v1 v2 v3, IsTupOf3 g TO v1 v2 v3) →
      g.get? s.heap.objs.size = some { cls := .type "tuple", data := .seq #[x', y', u'] } → (∀ e o, e ∉ [z, TO, TI, j1, j2, j3] → s.heap.get? e = some o → g.get? e = some o) → Q (some (.ref s.heap.objs.size)) { s with heap := g } := fun g kz' e1 e2 e3 eI eO nT hk => by
    have nH : H s.heap.objs.size = none := I.hok.fresh (Nat.le_refl _)
    have new : ObjOk X.prog X.w (upd H s.heap.objs.size (.tup [x, y, u])) g s.heap.objs.size (.tup [x, y, u]) := ⟨by show 3 ≤ sizeLine; decide, [x', y', u'], .cons rx (.cons ry (.cons ru .nil)), ⟨_, nT, rfl, _, rfl⟩⟩
    refine fin s.heap.objs.size _ (I.turnedNew (t' := s.toks) (ch := [z, TO, TI, j1, j2, j3]) hk hf (Nat.le_refl _) new) nH ⟨.inr ?_, eI, eO, e1, e2, e3⟩ (fp_upd hf fun e he => Nat.ne_of_lt (low e he))
    rcases kz' with ⟨f, kz'⟩ | ⟨T, f, ws, kz', hT⟩
    · exact ⟨_, f, _, kz', upd_same⟩
    · exact ⟨T, f, ws, kz', by rw [upd_ne (ne_of_none hT nH)]; exact hT⟩
  have a1 : s.heap.IsTuple a ia.toArray := pa
  unfold pyNext
  refine wpAny_bind (wpAny_attempt (wpAny_callSpecial?_slot (name := Str.ofString "__next__") kind F.slot_zip_next (wpAny_call_entry F.slot_zip_next kind F.entry_zip_next ?_ (F.args_zip_next_1 _))))
  rcases kz with ⟨_, kz⟩ | ⟨T, f1, ws, kz, hT⟩
  · refine first ap kz ki ko (x := x') (y := y') (u := u') (gives_t t1 a1 (by simpa using hx')) (gives_l t2 pb.isList (by simpa using hy')) (gives_l t3 pc.isList (by simpa using hu')) (fun g g' q k => q.at fun o e => k o e) (fun g g' q k => q.at fun o e => k o e) (fun g g' q k => q.at fun o e => k o e) fun g kz' eO e1 e2 e3 nT hk => wpAny_pure ?_
    exact done g (.inl ⟨_, kz'⟩) e1 e2 e3 (hk _ _ ap.TIz ap.TITO ap.TI1 ap.TI2 ap.TI3 ki) ⟨_, _, _, eO⟩ nT fun e o ne q => hk e o (fun h => ne (by simp [h])) (fun h => ne (by simp [h])) (fun h => ne (by simp [h])) (fun h => ne (by simp [h])) (fun h => ne (by simp [h])) q
  · obtain ⟨_, _, pT, _⟩ := I.tuple (SqT.of (K := X.K) hT)
    obtain ⟨oT, hoT, _⟩ := pT
    refine later ap kz hoT ki (x := x') (y := y') (u := u') (gives_t t1 a1 (by simpa using hx')) (gives_l t2 pb.isList (by simpa using hy')) (gives_l t3 pc.isList (by simpa using hu')) (fun g g' q k => q.at fun o e => k o e) (fun g g' q k => q.at fun o e => k o e) (fun g g' q k => q.at fun o e => k o e) fun g kz' e1 e2 e3 nT hk => wpAny_pure ?_
    obtain ⟨f, kz'⟩ := kz'
    exact done g (.inr ⟨T, f, ws, kz', hT⟩) e1 e2 e3 (hk _ _ ap.TIz ap.TI1 ap.TI2 ap.TI3 ki) ⟨v1, v2, v3, hk _ _ ap.TOz ap.TO1 ap.TO2 ap.TO3 ko⟩ nT fun e o ne q => hk e o (fun h => ne (by simp [h])) (fun h => ne (by simp [h])) (fun h => ne (by simp [h])) (fun h => ne (by simp [h])) q
theorem zend {Q : Option Value → Shared → Prop} {E : Value → Shared → Prop} (ap : Apart3 z TI TO j1 j2 j3 a b c) (hh : A.handled = none) (I : Inv X pins σ H s) (st : ZSt H z TI TO j1 j2 j3 a b c i s.heap) (hf : ∀ e ∈ [z, TO, TI, j1, j2, j3], FpOk X pins H e) (ha : SqT X.K H a xs) (hx : xs[i]? = none) (fin : ∀ s', Inv X pins σ H s' → Q none s') : wpAny (model X.prog X.w) A (pyNext (.ref z)) Q E s := by
  obtain ⟨kz, ki, ⟨v1, v2, v3, ko⟩, t1, t2, t3⟩ := id st
  obtain ⟨ia, ra, pa, _⟩ := I.tuple ha
  have n1 := ra.length
  have a1 : s.heap.IsTuple a ia.toArray := pa
  have em : ia.toArray[i]? = none := by
    rw [List.getElem?_eq_none_iff] at hx
    simp
    omega
  have kind : s.TypeIs (.ref z) "zip" := by
    rcases kz with ⟨_, kz⟩ | ⟨T, f1, ws, kz, hT⟩ <;> exact ⟨_, kz, rfl⟩
  unfold pyNext
  refine wpAny_bind (wpAny_attempt (wpAny_callSpecial?_slot (name := Str.ofString "__next__") kind F.slot_zip_next (wpAny_call_entry F.slot_zip_next kind F.entry_zip_next ?_ (F.args_zip_next_1 _))))
  have close : ∀ g e, (∀ c o, c ≠ z → c ≠ j1 → s.heap.get? c = some o → g.get? c = some o) → (∃ o, g.get? e = some o ∧ o.cls = .type "StopIteration") → Inv X pins σ H { s with heap := g } := fun g e hk he => I.turnedL (t' := s.toks) (ch := [z, TO, TI, j1, j2, j3]) (fun e o ne q => hk e o (fun h => ne (by simp [h])) (fun h => ne (by simp [h])) q) hf
  rcases kz with ⟨_, kz⟩ | ⟨T, f1, ws, kz, hT⟩
  · refine last0 ap.j1z ap.b1z hh kz ki (ends_t t1 a1 em) fun g e hk he => ?_
    obtain ⟨o, ho, hc⟩ := id he
    exact wpAny_bind (wpAny_isInstance (T := "StopIteration") (b := true) ⟨o, ho, hc⟩ isSubtype_stop (wpAny_pure (fin _ (close g e hk he))))
  · obtain ⟨_, _, pT, _⟩ := I.tuple (SqT.of (K := X.K) hT)
    obtain ⟨oT, hoT, _⟩ := pT
    refine last ap.j1z ap.b1z hh kz hoT ki (ends_t t1 a1 em) fun g e hk he => ?_
    obtain ⟨o, ho, hc⟩ := id he
    exact wpAny_bind (wpAny_isInstance (T := "StopIteration") (b := true) ⟨o, ho, hc⟩ isSubtype_stop (wpAny_pure (fin _ (close g e hk he))))
/-- the tuples of the list so far -/
def Trip (H : Hp) (xs ys us : List V) (ts : List Addr) : Prop := ∀ (j : Nat) (T : Addr) (x y u : V), ts[j]? = some T → xs[j]? = some x → ys[j]? = some y → us[j]? = some u → H T = some (.tup [x, y, u])
theorem zloop {S : Addr} {H0 : Hp} {R : Result → Shared → Prop} (ap : Apart3 z TI TO j1 j2 j3 a b c) (hh : A.handled = none) (ny : xs.length ≤ ys.length) (nu : xs.length ≤ us.length) (nz : xs.length < sizeLine) (hS : H0 S = none) (ha : SqT X.K H0 a xs) (hb : SqL X.K H0 b ys) (hc : SqL X.K H0 c us)
    (fin : ∀ (H' : Hp) (ts : List Addr) (s' : Shared), Inv X pins σ H' s' → (∀ b o, H0 b = some o → H' b = some o) → H' S = some (.lst (ts.map V.ref)) → ts.length = xs.length → Trip H' xs ys us ts → R (.ok (.ret .none)) s') :
    ∀ (k i : Nat) (s : Shared) (H : Hp) (ts : List Addr), xs.length - i = k → i ≤ xs.length → Inv X pins σ H s → ZSt H z TI TO j1 j2 j3 a b c i s.heap → (∀ e ∈ [z, TO, TI, j1, j2, j3], FpOk X pins H e) → (∀ b o, H0 b = some o → H b = some o) → H S = some (.lst (ts.map V.ref)) → ts.length = i → Trip H xs ys us ts →
      codeAny (model X.prog X.w) A (.builtin "list.extend.loop" ⟨[.ref S, .ref z, .none], []⟩) R s := by
  intro k
  induction k with
  | zero =>
    intro i s H ts hk hi I st hf sm hSl hl tr
    obtain rfl : i = xs.length := by omega
    refine codeAny_builtin F.entry_extend_loop ?_
    rw [Around.under_plainId F.plain_extend_loop _]
    show wpAny _ A.in1 (pyNext (.ref z) >>= _) _ _ s
    refine wpAny_bind (zend ap hh I st hf (SqT.ext ha sm) (by simp) fun s' I' => ?_)
    exact wpAny_pure (fin H ts s' I' sm hSl hl tr)
  | succ k ih =>
    intro i s H ts hk hi I st hf sm hSl hl tr
    have lt : i < xs.length := by omega
    have hx : xs[i]? = some xs[i] := List.getElem?_eq_getElem lt
    have hy : ys[i]? = some ys[i] := List.getElem?_eq_getElem (by omega)
    have hu : us[i]? = some us[i] := List.getElem?_eq_getElem (by omega)
    refine codeAny_builtin F.entry_extend_loop ?_
    rw [Around.under_plainId F.plain_extend_loop _]
    show wpAny _ A.in1 (pyNext (.ref z) >>= _) _ _ s
    refine wpAny_bind (zturn ap I st hf (SqT.ext ha sm) (SqL.ext hb sm) (SqL.ext hc sm) hx hy hu fun T s' I' nT st' hf' => ?_)
    have hS' : upd H T (.tup [xs[i], ys[i], us[i]]) S = some (.lst (ts.map V.ref)) := by rw [upd_ne (ne_of_none hSl nT)]; exact hSl
    obtain ⟨zz, its, n, r, hlz, e⟩ := I'.lstM hS'
    have chS : ∀ e ∈ [z, TO, TI, j1, j2, j3], e ≠ S := fun e he q => by
      have := (hf' e he).1
      rw [q, hS'] at this
      cases this
    show wpAny _ A.in1 (updateSeq S (·.push (.ref T)) >>= _) _ _ _
    refine wpAny_bind ?_
    have hz1 : its.length < sizeLine := by
      rw [← hlz, List.length_map]
      omega
    refine wpAny_updateSeq e rfl (wpAny_pure ⟨plainId_quiet F.plain_extend_loop _, ?_⟩) (by simp; omega) (by simp; omega)
    have I2 : Inv X pins σ (upd (upd H T (.tup [xs[i], ys[i], us[i]])) S (.lst ((ts ++ [T]).map V.ref))) { s' with heap := s'.heap.update S (Obj.mapSeq (·.push (.ref T))) } := by
      refine I'.lset (t' := s'.toks) (its' := its ++ [.ref T]) hS' e (by simp) ?_ ?_
      · rw [List.map_append]
        exact r.append (.cons rfl .nil)
      · rw [List.length_map, List.length_append, List.length_singleton]
        omega
    have up : ∀ b o, H b = some o → b ≠ S → upd (upd H T (.tup [xs[i], ys[i], us[i]])) S (.lst ((ts ++ [T]).map V.ref)) b = some o := fun b o q nb => by
      rw [upd_ne nb, upd_ne (ne_of_none q nT)]
      exact q
    have TS : T ≠ S := fun q => by
      rw [q, hSl] at nT
      cases nT
    refine ih (i + 1) _ _ (ts ++ [T]) (by omega) lt I2 (st'.kept (fun e he o q => (Heap.get?_update_other _ _ (Ne.symm (chS e he))).trans q) fun T' ws q => ?_) (fp_upd hf' chS) (fun b o q => up b o (sm _ _ q) (ne_of_none q hS)) upd_same (by rw [List.length_append]; simp [hl]) fun j T' x y u h1 h2 h3 h4 => ?_
    · by_cases hT' : T' = S
      · rw [hT', hS'] at q
        cases q
      · rw [upd_ne hT']
        exact q
    · rcases Nat.lt_or_ge j ts.length with hj | hj
      · rw [List.getElem?_append_left hj] at h1
        have q := tr j T' x y u h1 h2 h3 h4
        refine up _ _ q fun h => ?_
        rw [h, hSl] at q
        cases q
      · rw [List.getElem?_append_right hj] at h1
        have hj' : j - ts.length = 0 := by
          have := (List.getElem?_eq_some_iff.mp h1).1
          simp at this
          omega
        rw [hj'] at h1
        cases h1
        obtain rfl : j = i := by omega
        rw [hx] at h2
        rw [hy] at h3
        rw [hu] at h4
        cases h2
        cases h3
        cases h4
        rw [upd_ne TS, upd_same]
theorem apart_new {N a b c : Nat} (la : a < N) (lb : b < N) (lc : c < N) : Apart3 (N + 5) (N + 3) (N + 4) N (N + 1) (N + 2) a b c := by
  constructor <;> (refine fun h => ?_) <;> (replace h := (show (_ : Nat) = _ from h)) <;> omega
theorem zcall {Q : Value → Shared → Prop} {E : Value → Shared → Prop} (ap : Apart3 z TI TO j1 j2 j3 a b c) (hh : A.handled = none) (ny : xs.length ≤ ys.length) (nu : xs.length ≤ us.length) (nz : xs.length < sizeLine) (I : Inv X pins σ H s) (st : ZSt H z TI TO j1 j2 j3 a b c 0 s.heap) (kz : Zip3 s.heap z TI TO .none (.bool false)) (hf : ∀ e ∈ [z, TO, TI, j1, j2, j3], FpOk X pins H e)
    (ha : SqT X.K H a xs) (hb : SqL X.K H b ys) (hc : SqL X.K H c us)
    (fin : ∀ (S : Addr) (H' : Hp) (ts : List Addr) (s' : Shared), Inv X pins σ H' s' → (∀ b o, H b = some o → H' b = some o) → H S = none → H' S = some (.lst (ts.map V.ref)) → ts.length = xs.length → Trip H' xs ys us ts → Q (.ref S) s') :
    wpAny (model X.prog X.w) A (call (.type "list") [.ref z]) Q E s := by
  have low := zst_low st
  have nS : H s.heap.objs.size = none := I.hok.fresh (Nat.le_refl _)
  have zS : s.heap.objs.size ≠ z := Nat.ne_of_gt (low z (by simp))
  refine callType_codes (Q₁ := fun obj s₁ => obj = .ref s.heap.objs.size ∧ s₁ = { s with heap := s.heap.push { cls := .type "list", data := .seq #[] } }) F.called_list (F.typeCall_list_1 _) F.entry_list_init (code_list_new _ ⟨rfl, rfl⟩) fun obj s₁ h₁ => ?_
  obtain ⟨rfl, rfl⟩ := h₁
  have I1 : Inv X pins σ (upd H s.heap.objs.size (.lst [])) { s with heap := s.heap.push { cls := .type "list", data := .seq #[] } } := I.lnew (t' := s.toks) (its := []) .nil (Nat.zero_le _)
  have g1 : ∀ e ∈ [z, TO, TI, j1, j2, j3], ∀ o, s.heap.get? e = some o → (s.heap.push { cls := .type "list", data := .seq #[] }).get? e = some o := fun e _ o q => Heap.get?_push_of_some _ q
  have e1 : (s.heap.push { cls := .type "list", data := .seq #[] }).get? s.heap.objs.size = some { cls := .type "list", data := .seq #[] } := Heap.get?_push_size _ rfl
  have ne : ∀ e ∈ [z, TO, TI, j1, j2, j3], e ≠ s.heap.objs.size := fun e he => Nat.ne_of_lt (low e he)
  have kindz : ∀ g : Heap, (∀ e ∈ [z, TO, TI, j1, j2, j3], ∀ o, s.heap.get? e = some o → g.get? e = some o) → ∀ t' : Shared, t'.heap = g → t'.TypeIs (.ref z) "zip" := fun g k t' e => ⟨_, by rw [e]; exact k z (by simp) _ kz, rfl⟩
  generalize hN : s.heap.objs.size = S at *
  refine ⟨⟨_, e1, rfl⟩, F.args_list_init_2 _ _, ?_⟩
  show wpAny _ A.in1.in1 (do let old ← Builtin.List.listItems (.ref S); Builtin.List.listUpdate (.ref S) (fun _ => #[]); letGo old.toList.reverse; Builtin.List.listExtendWith (.ref S) (.ref z) .none) _ _ _
  refine wpAny_bind ?_
  unfold Builtin.List.listItems
  refine wpAny_bind (wpAny_seqItems e1 rfl (wpAny_pure ?_))
  show wpAny _ A.in1.in1 (updateSeq S (fun _ => #[]) >>= fun _ => letGo (#[] : Array Value).toList.reverse >>= fun _ => Builtin.List.listExtendWith (.ref S) (.ref z) .none) _ _ _
  refine wpAny_bind (wpAny_updateSeq e1 rfl ?_)
  have e2 := Heap.get?_update_self (Obj.mapSeq (fun _ => (#[] : Array Value))) e1 rfl
  have I2 := I1.lset (t' := s.toks) (its := []) (its' := []) (f := fun _ => #[]) upd_same e1 rfl .nil (Nat.zero_le _)
  have g2 : ∀ e ∈ [z, TO, TI, j1, j2, j3], ∀ o, s.heap.get? e = some o → ((s.heap.push { cls := .type "list", data := .seq #[] }).update S (Obj.mapSeq (fun _ => (#[] : Array Value)))).get? e = some o := fun e he o q => (Heap.get?_update_other _ _ (Ne.symm (ne e he))).trans (g1 e he o q)
  refine wpAny_bind (wpAny_letGo ?_)
  unfold Builtin.List.listExtendWith
  refine wpAny_bind (wpAny_typeOf (kindz _ g2 _ rfl) ?_)
  have h1 : Builtin.List.listSameRef (.ref S) (.ref z) = false := by simp [Builtin.List.listSameRef, zS]
  have h2 : (Value.type "zip" == Value.type "list") = false := by decide
  have h3 : (Value.type "zip" == Value.type "tuple") = false := by decide
  simp only [h1, h2, h3, Bool.or_false, Bool.false_eq_true, if_false]
  refine wpAny_bind (wpAny_pyIter_zip (g2 z (by simp) _ kz) ?_)
  refine wpAny_bind (wpAny_holding ?_)
  unfold Builtin.List.listLengthHint
  refine wpAny_bind (wpAny_specialOf (kindz _ g2 _ rfl) F.zip_no_len ?_)
  show wpAny _ A.in1.in1 (specialOf (Value.ref z) (Str.ofString "__length_hint__") >>= _) _ _ _
  refine wpAny_bind (wpAny_specialOf (kindz _ g2 _ rfl) F.zip_no_hint ?_)
  refine wpAny_pure ?_
  show wpAny _ A.in1.in1 (rule "list.extend.makes-room" >>= fun _ => Builtin.List.listTouch (.ref S) >>= fun _ => again (.builtin "list.extend.loop" ⟨[.ref S, .ref z, .none], []⟩)) _ _ _
  refine wpAny_bind (wpAny_rule ?_)
  refine wpAny_bind ?_
  show wpAny _ A.in1.in1 (updateSeq S (·.push .none) >>= fun _ => updateSeq S (·.pop)) _ _ _
  refine wpAny_bind (wpAny_updateSeq e2 rfl ?_)
  have e3 := Heap.get?_update_self (Obj.mapSeq (·.push Value.none)) e2 rfl
  have I3 := I2.lset (t' := s.toks) (its := []) (its' := [.none]) (ys := [.non]) (f := (·.push Value.none)) upd_same e2 rfl (.cons rfl .nil) (by decide)
  refine wpAny_updateSeq (hz := by seq_fits) e3 rfl ?_
  have e4 := Heap.get?_update_self (Obj.mapSeq (·.pop)) e3 rfl
  have I4 := I3.lset (t' := s.toks) (its := [.none]) (its' := []) (ys := []) (f := (·.pop)) upd_same e3 rfl .nil (Nat.zero_le _)
  refine wpAny_pure ⟨plainId_quiet F.plain_extend_loop _, ?_⟩
  have uu : ∀ (G : Hp) (p q r t : HO), upd (upd (upd (upd G S p) S q) S r) S t = upd G S t := fun G p q r t => by
    funext b
    by_cases hb : b = S
    · subst hb
      rw [upd_same, upd_same]
    · rw [upd_ne hb, upd_ne hb, upd_ne hb, upd_ne hb, upd_ne hb]
  rw [uu] at I4
  have fp4 := fp_upd (X := X) (pins := pins) (T := S) (o := HO.lst []) hf ne
  refine zloop (A := A.in1) (S := S) (H0 := H) ap hh ny nu nz nS ha hb hc (fun H' ts s' I' sm hl hn tr => ⟨rfl, fin S H' ts s' I' sm nS hl hn tr⟩) xs.length 0 _ _ [] (by omega) (Nat.zero_le _) I4 (st.kept (fun e he o q => ?_) fun T ws q => ?_) fp4 (fun b o q => ?_) upd_same rfl (fun j T x y u h => by simp at h)
  · exact (Heap.get?_update_other _ _ (Ne.symm (ne e he))).trans ((Heap.get?_update_other _ _ (Ne.symm (ne e he))).trans (g2 e he o q))
  · rw [upd_ne (ne_of_none q nS)]
    exact q
  · rw [upd_ne (ne_of_none q nS)]
    exact q
/-- list(zip(a, b, c)): a tuple and two lists at least as long -/
def tListZ (K : PySem.W.Frag) (ta : TA) : TE := fun σ H Q => ta σ H fun vs H1 => ∃ (a b c : Addr) (xs ys us : List V), vs = [.ref a, .ref b, .ref c] ∧ SqT K H1 a xs ∧ SqL K H1 b ys ∧ SqL K H1 c us ∧ xs.length ≤ ys.length ∧ xs.length ≤ us.length ∧ xs.length < sizeLine ∧
  ∀ (S : Addr) (H' : Hp) (ts : List Addr), (∀ b o, H1 b = some o → H' b = some o) → H1 S = none → H' S = some (.lst (ts.map V.ref)) → ts.length = xs.length → Trip H' xs ys us ts → Q (.ref S) H'
theorem pe_listZ {e1 e2 e3 : Expr} {ta : TA} {nm : Str} {p p2 pos pos2 : Pos} (hg : Gl X nm) (hmg : X.mg nm = none) (hv : bootBuiltins nm = some (.type "list")) (hz : Gl X "zip") (hmz : X.mg "zip" = none) (ha : PA X [e1, e2, e3] ta) (hnm : nm ≠ "__name__" := by decide) (hdb : (nm == ("__debug__" : Str)) = false := by decide)
    (he : starEach [Expr.Call (.Name "zip" p2) [e1, e2, e3] [] pos2] X.env = (false, eval (Expr.Call (.Name "zip" p2) [e1, e2, e3] [] pos2) X.env) :: starEach [] X.env := by rfl)
    (hs : starEach [e1, e2, e3] X.env = (false, eval e1 X.env) :: starEach [e2, e3] X.env := by rfl) (hpl : (backTo pos2 (starEach [e2, e3] X.env)).any (·.1) = false := by rfl)
    (hc : X.calm = true := by rfl) : PE X (.Call (.Name nm p) [.Call (.Name "zip" p2) [e1, e2, e3] [] pos2] [] pos) (tListZ X.K ta) := by
  refine ⟨fun pins s σ H Q I hq => ?_⟩
  refine wpAny_Call_Name_kw (ld_blt I hg hmg hv ?_ hnm hdb)
  refine PyProof.Rows.callWith_type1 ?_ he rfl
  rw [he]
  show wpAny _ _ (spliced ((false, eval (Expr.Call (.Name "zip" p2) [e1, e2, e3] [] pos2) X.env) :: backTo pos (starEach [] X.env))) _ _ s
  refine Calls.spliced_cons ?_
  refine wpAny_Call_Name_kw (ld_blt I hz hmz PyProof.Rows.boot_zip (PyProof.Rows.callWith_type1 (thn (ha.run pos2 pins s σ H _ I hq) fun us s1 ⟨vs, H1, I1, r1, a, b, c, xs, ys, ws, ex, hqa, hqb, hqc, ny, nu, nz, q⟩ => ?_) hs hpl))
  subst ex
  cases r1 with
  | cons r rr =>
    cases rr with
    | cons r2 rr =>
      cases rr with
      | cons r3 rr =>
        cases rr
        cases r
        cases r2
        cases r3
        obtain ⟨ia, ra, pa, _⟩ := I1.tuple hqa
        obtain ⟨ib, rb, pb, _⟩ := I1.list hqb
        obtain ⟨ic, rc, pc, _⟩ := I1.list hqc
        have a1 : s1.heap.IsTuple a ia.toArray := pa
        obtain ⟨oa, hoa, _⟩ := id a1
        refine zip_begins3 (begins_tuple a ia.toArray) (begins_list b ib.toArray) (begins_list c ic.toArray) a1 pb.isList pc.isList fun g kz ki ko t1 t2 t3 sz hk => ?_
        have I2 : Inv X pins σ H1 { s1 with heap := g } := I1.kept (t' := s1.toks) hk
        have fps : ∀ e ∈ [s1.heap.objs.size + 5, s1.heap.objs.size + 4, s1.heap.objs.size + 3, s1.heap.objs.size, s1.heap.objs.size + 1, s1.heap.objs.size + 2], FpOk X pins H1 e := fun e hem => by
          have le : s1.heap.objs.size ≤ e := by
            have hem' : e = s1.heap.objs.size + 5 ∨ e = s1.heap.objs.size + 4 ∨ e = s1.heap.objs.size + 3 ∨ e = s1.heap.objs.size ∨ e = s1.heap.objs.size + 1 ∨ e = s1.heap.objs.size + 2 := by simpa using hem
            rcases hem' with h | h | h | h | h | h <;> (rw [h]; first | exact Nat.le_add_right _ _ | exact Nat.le_refl _)
          exact I1.fpOk le (I1.hok.fresh le)
        refine Calls.spliced_nil ?_
        refine zcall (apart_new (Heap.lt_size hoa) pb.lt pc.lt) (I1.ok.hd hc) ny nu nz I2 ⟨.inl ⟨rfl, kz⟩, ki, ⟨_, _, _, ko⟩, ⟨_, t1, rfl, rfl⟩, ⟨_, t2, rfl, rfl⟩, ⟨_, t3, rfl, rfl⟩⟩ kz fps hqa hqb hqc fun S H' ts s' I' sm nS hl hn tr => ?_
        exact ⟨.ref S, H', I', rfl, q S H' ts sm nS hl hn tr⟩
end
end L2
/-! Part.placed, showing_of. -/
namespace Sm
open PySem PySem.Spec PyProof.Rows L2 Vd RZ
/-! ### a list woven of its pieces and own ones -/
def weave : List (List PyData) → List PyData → List PyData
  | [], _ => []
  | [l], _ => l
  | l :: m :: ls, [] => l
  | l :: m :: ls, o :: os => l ++ o :: weave (m :: ls) os
theorem weave_add (d : PyData) : ∀ (ls : List (List PyData)) (l : List PyData) (os : List PyData), ls.length = os.length → weave (ls ++ [l ++ [d]]) os = weave (ls ++ [l]) os ++ [d]
  | [], l, os, _ => by simp [weave]
  | [a], l, o :: os, h => by
    have : os = [] := List.length_eq_zero_iff.mp (by simpa using h.symm)
    subst this
    simp [weave]
  | a :: b :: ls, l, o :: os, h => by
    have ih := weave_add d (b :: ls) l os (by simpa using h)
    simp only [List.cons_append] at ih ⊢
    unfold weave
    rw [ih, List.append_assoc]
    rfl
theorem weave_new (d : PyData) (l : List PyData) : ∀ (ls : List (List PyData)) (os : List PyData), ls.length = os.length → weave (ls ++ [l] ++ [[]]) (os ++ [d]) = weave (ls ++ [l]) os ++ [d]
  | [], os, h => by
    have : os = [] := List.length_eq_zero_iff.mp (by simpa using h.symm)
    subst this
    simp [weave]
  | [a], o :: os, h => by
    have : os = [] := List.length_eq_zero_iff.mp (by simpa using h.symm)
    subst this
    simp [weave]
  | a :: b :: ls, o :: os, h => by
    have ih := weave_new d l (b :: ls) os (by simpa using h)
    simp only [List.cons_append] at ih ⊢
    unfold weave
    rw [ih, List.append_assoc]
    rfl
theorem cut_weave (q : PyData → Bool) (ds : List PyData) : (cutA q ds).1.length = (cutA q ds).2.1.length ∧ weave ((cutA q ds).1 ++ [(cutA q ds).2.2]) (cutA q ds).2.1 = ds := by
  induction ds using snocInd with
  | h0 => exact ⟨rfl, rfl⟩
  | hs l d ih =>
    obtain ⟨i1, i2⟩ := ih
    have e : cutA q (l ++ [d]) = cutS q (cutA q l) d := by
      unfold cutA
      rw [List.foldl_append]
      rfl
    rw [e]
    unfold cutS
    split
    · refine ⟨by simp [i1], ?_⟩
      show weave ((cutA q l).1 ++ [(cutA q l).2.2] ++ [[]]) ((cutA q l).2.1 ++ [d]) = _
      rw [weave_new d _ _ _ i1, i2]
    · refine ⟨i1, ?_⟩
      show weave ((cutA q l).1 ++ [(cutA q l).2.2 ++ [d]]) (cutA q l).2.1 = _
      rw [weave_add d _ _ _ i1, i2]
theorem pieces_weave (q : PyData → Bool) (ds : List PyData) : weave (pieces q ds) (owns q ds) = ds := (cut_weave q ds).2
theorem weave_sub : ∀ (ls : List (List PyData)) (os : List PyData) (oa ob : Option PyData) (i : Nat) (l : List PyData) (x y : Option PyData), ls.length = os.length + 1 → ls[i]? = some l → (oa :: (os.map some ++ [ob]))[i]? = some x → (os.map some ++ [ob])[i]? = some y →
    (x.toList ++ l ++ y.toList).Sublist (oa.toList ++ weave ls os ++ ob.toList)
  | [], os, oa, ob, i, l, x, y, h, hl, hx, hy => by simp at hl
  | [a], os, oa, ob, i, l, x, y, h, hl, hx, hy => by
    have : os = [] := List.length_eq_zero_iff.mp (by simpa using h.symm)
    subst this
    cases i with
    | zero =>
      cases hl
      cases hx
      cases hy
      simp [weave]
    | succ i => simp at hl
  | a :: b :: ls, [], oa, ob, i, l, x, y, h, hl, hx, hy => by simp at h
  | a :: b :: ls, o :: os, oa, ob, i, l, x, y, h, hl, hx, hy => by
    cases i with
    | zero =>
      cases hl
      cases hx
      cases hy
      unfold weave
      simp
    | succ i =>
      have ih := weave_sub (b :: ls) os (some o) ob i l x y (by simpa using h) (by simpa using hl) (by simpa using hx) (by simpa using hy)
      refine ih.trans ?_
      rw [show weave (a :: b :: ls) (o :: os) = a ++ o :: weave (b :: ls) os from rfl]
      simp only [Option.toList_some, List.append_assoc, List.cons_append, List.nil_append]
      exact (List.sublist_append_right _ _).trans (List.sublist_append_right _ _)
section
variable {P : Program} {w : World} {K : PySem.W.Frag} {mg : Str → Option Value} {base : Heap}
theorem scPlaced : FnScope ["self", "ahead", "behind", "bounds"] ["self", "ahead", "behind"] (defScope sPlaced) := ⟨rfl, rfl, rfl, by decide +kernel, rfl, by decide +kernel, by decide +kernel⟩
def spPlaced (CP : Addr) (K : PySem.W.Frag) : Sp := fun vs H Q _ => ∃ (a dx c o : Addr) (fs : List (Str × V)) (ks os : List V) (x y : V), vs = [.ref a, x, y] ∧ H a = some (.ins CP dx fs) ∧ fs.lookup ("children" : Str) = some (V.ref c) ∧ fs.lookup ("own" : Str) = some (V.ref o) ∧ TupN H c ks ∧ TupN H o os ∧ ks.length ≤ os.length + 1 ∧ os.length ≤ 4000 ∧
  ∀ (S : Addr) (H' : Hp) (ts : List Addr), Same H H' → H' S = some (.lst (ts.map V.ref)) → ts.length = ks.length → Trip H' ks (x :: (os ++ [y])) (os ++ [y]) ts → Q (.ref S) H'
theorem ok_placed {CP : Addr} {f : Addr} {fd : FuncData} (F : FunD K "placed" "Part.placed" (defArgs sPlaced) (defBody sPlaced) (defScope sPlaced) [] [] f fd) (M : Nm mg) (M2 : Nm2 mg) (hC : Cls K CP) (nC : NoAttr K CP "children") (nO : NoAttr K CP "own") : FnOk P w K mg base CX0 1 f fd ["self", "ahead", "behind"] (spPlaced CP K) := by
  refine F.ok scPlaced (fun vs H Q E h => ?_) (fun cdv A outer s H vs Q E hr h => ?_)
  · obtain ⟨a, dx, c, o, fs, ks, os, x, y, rfl, _⟩ := h
    rfl
  obtain ⟨a, dx, c, o, fs, ks, os, x, y, rfl, ha, lC, lO, hc, ho, z1, z2, q⟩ := h
  refine ⟨_, PSs.nox (pss_cons (ps_set (i := 3) scPlaced.nd rfl (Or.inl rfl) (pe_lst (pa_cons (pv 1) (StX.pa_star (pe_fld (pv 0) (by rfl)) (pa_cons (pv 2) pa_nil)))))
      (pss_one (ps_ret (pe_listZ (by rfl) M.list (by decide +kernel) (by rfl) M2.zip (pa_cons (pe_fld (pv 0) (by rfl)) (pa_cons (pv 3) (pa_cons (pe_slice (r := rSlL K) sl_list (pv 3) (po_some pe_int) po_none) pa_nil))))))), ?_⟩
  refine ⟨_, rfl, .ref a, rfl, a, CP, dx, fs, .ref o, rfl, ha, hC, nO, lO, o, os, rfl, .inl ho.sq, _, rfl, by simp [sizeLine_eq]; omega, fun B nB => ?_⟩
  have s1 : Same H (upd H B (.lst (x :: (os ++ [y])))) := same_up nB
  have e1 : upd H B (.lst (x :: (os ++ [y]))) B = some (.lst (x :: (os ++ [y]))) := upd_same
  generalize upd H B (.lst (x :: (os ++ [y]))) = H1 at s1 e1 ⊢
  refine ⟨.ref a, rfl, a, CP, dx, fs, .ref c, rfl, s1 _ _ ha, hC, nC, lC, _, rfl, _, rfl, (1 : Int), rfl, B, _, rfl, SqL.of e1, fun B2 nB2 => ?_⟩
  have s2 := Same.trans s1 (same_up (o := .lst (os ++ [y])) nB2)
  rw [cut1]
  refine ⟨c, B, B2, ks, x :: (os ++ [y]), os ++ [y], rfl, (hc.same s2).sq, SqL.of (same_up nB2 _ _ e1), SqL.of upd_same, by simp; omega, by simp; omega, by rw [sizeLine_eq]; omega, fun S H' ts sm _ hS hl tr => q S H' ts (Same.trans s2 sm) hS hl tr⟩
/-! ### showing_of -/
structure MPlaced (P : Program) (w : World) (K : PySem.W.Frag) (mg : Str → Option Value) (base : Heap) (CP f : Addr) (fd : FuncData) : Prop where
  m : Meth K CP "placed" f
  F : FnOk P w K mg base CX0 1 f fd ["self", "ahead", "behind"] (spPlaced CP K)
  hb : Binds K fd ["self", "ahead", "behind"] []
theorem le8 {j n : Nat} (h : j ≤ 8) : j ≤ Nat.add 8 n := Nat.le_trans h (Nat.le_add_right 8 n)
theorem top_rank (p : Int) : ∀ ds : List PyData, ∃ t : Nat, (∀ d ∈ ds, rkP p d ≤ t) ∧ (t = 0 ∨ ∃ d ∈ ds, rkP p d = t)
  | [] => ⟨0, fun _ h => (nomatch h), .inl rfl⟩
  | d :: r => by
    obtain ⟨t, h1, h2⟩ := top_rank p r
    rcases Nat.lt_or_ge t (rkP p d) with h | h
    · refine ⟨rkP p d, fun e he => ?_, .inr ⟨d, List.mem_cons_self, rfl⟩⟩
      rcases List.mem_cons.mp he with rfl | he
      · exact Nat.le_refl _
      · exact Nat.le_trans (h1 e he) (Nat.le_of_lt h)
    · refine ⟨t, fun e he => ?_, ?_⟩
      · rcases List.mem_cons.mp he with rfl | he
        · exact h
        · exact h1 e he
      · rcases h2 with h2 | ⟨e, he, h2⟩
        · exact .inl h2
        · exact .inr ⟨e, List.mem_cons_of_mem _ he, h2⟩
theorem tree_cases (p : Int) (ds : List PyData) : tree p ds = .mk [] ds ∨ ∃ m : Nat, m + 1 ≤ 6 ∧ (∃ d ∈ ds, rkP p d = m + 1) ∧ (∀ d ∈ ds, rkP p d ≤ m + 1) ∧ tree p ds = .mk ((pieces (fun d => rkP p d == m + 1) ds).map (tree p)) (owns (fun d => rkP p d == m + 1) ds) := by
  obtain ⟨t, h1, h2⟩ := top_rank p ds
  rcases Nat.eq_zero_or_pos t with h0 | h0
  · exact .inl (tree_leaf fun d hd => by have := h1 d hd; omega)
  · obtain ⟨m, rfl⟩ : ∃ m, t = m + 1 := ⟨t - 1, by omega⟩
    obtain ⟨d, hd, e⟩ : ∃ d ∈ ds, rkP p d = m + 1 := by
      rcases h2 with h2 | h2
      · omega
      · exact h2
    have m6 : m + 1 ≤ 6 := by
      rw [← e]
      exact rkI_le _
    exact .inr ⟨m, m6, ⟨d, hd, e⟩, h1, tree_node h1 ⟨d, hd, e⟩ m6⟩
mutual
theorem part_key {CP : Addr} {p : Int} {H : Hp} : ∀ {t : Tr} {a : Addr}, PartAt CP p K H a t → keyT (shD t) = true
  | .cut _ _, a, h => by
    simp [shD, keyT, keyTs]
  | .mk cs own, a, h => by
    unfold PartAt at h
    obtain ⟨ko, dx, c, o, n, ks, h1, h2, h3, h4, h5⟩ := h
    have := parts_key h3
    unfold shD
    split
    · simp [keyT, keyTs, ko]
    · simp [keyT, keyTs, ko, this]
theorem parts_key {CP : Addr} {p : Int} {H : Hp} : ∀ {ts : List Tr} {ks : List Addr}, PartsAt CP p K H ks ts → keyTs (shDs ts) = true
  | [], ks, h => by
    unfold shDs keyTs
    rfl
  | t :: ts, ks, h => by
    unfold PartsAt at h
    obtain ⟨k, r, rfl, h1, h2⟩ := h
    unfold shDs keyTs
    rw [part_key h1, parts_key h2]
    rfl
end
theorem scShow : FnScope ["part", "ahead", "behind", "stretches", "told", "child", "low", "high"] ["part", "ahead", "behind", "stretches"] (defScope sShow) := ⟨rfl, rfl, rfl, by decide +kernel, rfl, by decide +kernel, by decide +kernel⟩
def spShow (CP : Addr) (p : Int) (K : PySem.W.Frag) : Nat → Sp
  | 0 => fun _ _ _ _ => False
  | k + 1 => fun vs H Q _ => ∃ (a : Addr) (ds : List PyData) (x y sv : V) (oa ob : Option PyData) (d : PyData) (ts : List Stt), vs = [.ref a, x, y, sv] ∧ PartAt CP p K H a (tree p ds) ∧ (∀ e ∈ ds, rkP p e ≤ k) ∧ ds.length ≤ 3000 ∧ FactL ds ∧ Dd K H x (odD oa) ∧ Dd K H y (odD ob) ∧ OF oa ∧ OF ob ∧ Dd K H sv d ∧ StrsK d ts ∧
    ∀ v H', Same H H' → Dd K H' v (shD (sct ts p (tree p ds) oa ob)) → Q v H'
theorem ok_show {CP : Addr} {p : Int} {f f1 : Addr} {fd fd1 : FuncData} (F : FnP K "showing_of" sShow f fd) (hm : mg "showing_of" = some (.ref f)) (hk : PySem.W.keepIn K (.ref f) = true) (hb : Binds K fd ["part", "ahead", "behind", "stretches"] []) (M : Nm mg) (PL : MPlaced P w K mg base CP f1 fd1) (DSh : Df P w K mg base "is_shut" 7 ["stretches", "ahead", "behind"] (spShut K))
    (hC : Cls K CP) (nC : NoAttr K CP "children") (nO : NoAttr K CP "own") (nu : NoAttr K CP "number") (nM : NoAttr K CP "many") (hU : CutK K) : ∀ k, FnOk P w K mg base CX0 (8 + k) f fd ["part", "ahead", "behind", "stretches"] (spShow CP p K k)
  | 0 => ⟨fun vs H Q E h => h.elim, fun A outer s H args us vs Q E hr e0 hb' r h => h.elim⟩
  | n + 1 => by
    have DS : Df P w K mg base "showing_of" (8 + n) ["part", "ahead", "behind", "stretches"] (spShow CP p K n) := ⟨f, fd, hm, hk, hb, ok_show F hm hk hb M PL DSh hC nC nO nu nM hU n⟩
    refine F.ok scShow (fun vs H Q E h => ?_) (fun cdv A outer s H vs Q E hr h => ?_)
    · obtain ⟨a, ds, x, y, sv, oa, ob, d, ts0, rfl, _⟩ := h
      rfl
    obtain ⟨a, ds, x, y, sv, oa, ob, d, ts0, rfl, hP, hrk, zd, hfa, hx, hy, hoa, hob, hsv, hns, q⟩ := h
    refine ⟨_, PSs.nox (pss_cons (ps_if (pt_not (pt_truth (pe_fld (pv 0) (by rfl)) (fun _ => rfl))) (pss_one (ps_ret (pe_tup (pa_cons pe_str (pa_cons (pe_fld (pv 0) (by rfl)) pa_nil))))) pss_nil)
      (pss_cons (ps_set (i := 4) scShow.nd rfl (Or.inl rfl) (pe_lst pa_nil))
      (pss_cons (ps_for PassesOwn.never rfl (pi_list (pe_meth (pv 0) hC PL.m PL.F (hr.mono (le8 (by decide))) PL.hb .nil pass0 (pa_cons (pv 1) (pa_cons (pv 2) pa_nil)))) (pg_tup rfl (pgs_cons (pg_name (i := 5) scShow.nd rfl (Or.inl rfl)) (pgs_cons (pg_name (i := 6) scShow.nd rfl (Or.inl rfl)) (pgs_cons (pg_name (i := 7) scShow.nd rfl (Or.inl rfl)) pgs_nil)))) (pss_one (ps_if (pt_val (pe_df DSh hr (le8 (by decide)) (pa_cons (pv 3) (pa_cons (pv 6) (pa_cons (pv 7) pa_nil))))) (pss_one (ps_expr (pe_bm PySem.F.plainAttrs_list PySem.F.slot_list_append PySem.F.type_list_append mt_append (pv 4) (pa_cons (pe_tup (pa_cons pe_str (pa_cons (pe_fld (pv 5) (by rfl)) (pa_cons (pe_fld (pv 5) (by rfl)) pa_nil)))) pa_nil)))) (pss_one (ps_expr (pe_bm PySem.F.plainAttrs_list PySem.F.slot_list_append PySem.F.type_list_append mt_append (pv 4) (pa_cons (pe_df DS hr (Nat.le_refl _) (pa_cons (pv 5) (pa_cons (pv 6) (pa_cons (pv 7) (pa_cons (pv 3) pa_nil))))) pa_nil)))))))
      (pss_one (ps_ret (pe_tup (pa_cons pe_str (pa_cons (pe_callTy (r := rTupOf K) call_tuple_of (by rfl) M.tuple (by decide +kernel) (pa_cons (pv 4) pa_nil)) (pa_cons (pe_fld (pv 0) (by rfl)) pa_nil))))))))), ?_⟩
    rcases tree_cases p ds with et | ⟨m, m6, ⟨dm, hdm, edm⟩, hle, et⟩
    · rw [et] at hP q
      unfold sct scts at q
      unfold PartAt at hP
      obtain ⟨ko, dx, c, o, n', ks, h1, h2, h3, h4, h5⟩ := hP
      have lk := parts_len h3
      have k0 : ks = [] := List.length_eq_zero_iff.mp lk
      subst k0
      refine ⟨_, rfl, a, CP, dx, _, .ref c, rfl, h1, hC, nC, rfl, _, .inr (.inl ⟨_, h2.sq, rfl⟩), iteT ?_⟩
      refine ⟨.ref a, rfl, a, CP, dx, _, .ref o, rfl, h1, hC, nO, rfl, (by rw [sizeLine_eq]; exact (by decide : 2 ≤ 16777216)), fun T nT => q _ _ (same_up nT) ?_⟩
      show Dd K _ (.ref T) (.tuple [.str "leaf", .tuple ds])
      exact .tup (.inl upd_same) (.cons (.str _) (.cons (h4.same (same_up nT)) .nil))
    · obtain ⟨n', rfl⟩ : ∃ n', n = n' + 1 := ⟨n - 1, by have := hrk dm hdm; omega⟩
      have tn : m ≤ n' := by
        have := hrk dm hdm
        omega
      generalize hq : (fun d => rkP p d == m + 1) = Q1 at et
      have hin : ∀ l ∈ pieces Q1 ds, (∀ e ∈ l, rkP p e ≤ n') ∧ FactL l := fun l hl => by
        refine ⟨fun e he => ?_, fun e he => hfa e (pieces_in hl e he).1⟩
        obtain ⟨h1, h2⟩ := pieces_in hl e he
        have h3 := hle e h1
        rw [← hq] at h2
        have := beq_eq_false_iff_ne.mp h2
        omega
      have hof : FactL (owns Q1 ds) := fun e he => hfa e (owns_in e he).1
      have hpl : (pieces Q1 ds).length = (owns Q1 ds).length + 1 := by rw [pieces_len, places_len]
      have zo : (owns Q1 ds).length ≤ 3000 := by
        rw [owns_filter]
        exact Nat.le_trans (List.length_filter_le _ _) zd
      have ene : ds ≠ [] := fun e => by
        rw [e] at hdm
        cases hdm
      have hkS := part_key hP
      rw [et] at hP q hkS
      unfold PartAt at hP
      obtain ⟨ko, dx, c, o, n2, ks, h1, h2, h3, h4, h5⟩ := hP
      have lk := parts_len h3
      rw [List.length_map] at lk
      have ge : (ks.map V.ref).isEmpty = false := by
        cases ks with
        | nil => simp at lk; omega
        | cons _ _ => rfl
      have ck : keyTs (shDs ((pieces Q1 ds).map (tree p))) = true := parts_key h3
      refine ⟨_, rfl, a, CP, dx, _, .ref c, rfl, h1, hC, nC, rfl, _, .inr (.inl ⟨_, h2.sq, rfl⟩), ?_⟩
      rw [ge]
      refine iteF ?_
      obtain ⟨op, os, eo, hot, hod⟩ := ofTup h4
      cases eo
      have los := dall_len hod
      refine ⟨by rw [sizeLine_eq]; decide, fun L nL => ?_⟩
      have s1 : Same H (upd H L (.lst [])) := same_up nL
      have e1 : upd H L (.lst []) L = some (.lst []) := upd_same
      generalize upd H L (.lst []) = H1 at s1 e1 ⊢
      refine ⟨.ref a, rfl, a, dx, _, rfl, s1 _ _ h1, rfl, _, rfl, _, rfl, a, dx, c, o, _, ks.map V.ref, os, x, y, rfl, s1 _ _ h1, rfl, rfl, h2.same s1, hot.same s1, by rw [List.length_map]; omega, by omega, fun S H2 ts s2 hS hl tr => ⟨S, rfl, ⟨_, SqL.of hS⟩, ?_⟩⟩
      rw [List.length_map] at hl
      have s12 := Same.trans s1 s2
      have e2 := s2 _ _ e1
      have SL : S ≠ L := fun e => by
        rw [e, e2] at hS
        injection hS with hS
        injection hS with hS
        have := congrArg List.length hS
        rw [List.length_map] at this
        simp at this
        omega
      have bnd : DdAll K H (x :: (os ++ [y])) ((oa :: ((owns Q1 ds).map some ++ [ob])).map fun z => z.getD .none) := by
        have h := DdAll.cons hx (ddAll_snoc hod hy)
        have e : (oa :: ((owns Q1 ds).map some ++ [ob])).map (fun z => z.getD PyData.none) = oa.getD .none :: (owns Q1 ds ++ [ob.getD .none]) := by
          simp [Function.comp_def]
        rw [e]
        exact h
      have bnd2 : DdAll K H (os ++ [y]) (((owns Q1 ds).map some ++ [ob]).map fun z => z.getD .none) := by
        have h := ddAll_snoc hod hy
        have e : ((owns Q1 ds).map some ++ [ob]).map (fun z => z.getD PyData.none) = owns Q1 ds ++ [ob.getD .none] := by
          simp [Function.comp_def]
        rw [e]
        exact h
      have hlen : ((pieces Q1 ds).map (tree p)).length = (owns Q1 ds).length + 1 := by rw [List.length_map, hpl]
      have Wl := scts_len ts0 p ((pieces Q1 ds).map (tree p)) oa (owns Q1 ds) ob
      have Wk := cuts_key ts0 p ((pieces Q1 ds).map (tree p)) oa (owns Q1 ds) ob ck
      have Wa := scts_at ts0 p ((pieces Q1 ds).map (tree p)) oa (owns Q1 ds) ob
      unfold sct at q
      generalize hW : scts ts0 p ((pieces Q1 ds).map (tree p)) oa (owns Q1 ds) ob = W at Wl Wk Wa q
      have ofo : ∀ z ∈ oa :: ((owns Q1 ds).map some ++ [ob]), OF z := fun z hz => by
        simp only [List.mem_cons, List.mem_append, List.mem_map, List.not_mem_nil, or_false] at hz
        rcases hz with rfl | ⟨e, he, rfl⟩ | rfl
        · exact hoa
        · intro d hd
          cases hd
          exact hof e he
        · exact hob
      refine for_list (xs := ts.map V.ref) (fun i σ H' => Same H H' ∧ Keep L H2 H' ∧ (∃ z1 z2 z3, σ = [some (.ref a), some x, some y, some sv, some (.ref L), z1, z2, z3]) ∧ ∃ vs, H' L = some (.lst vs) ∧ DdAll K H' vs ((shDs W).take i)) ⟨s12, Keep.refl, ⟨none, none, none, rfl⟩, [], e2, .nil⟩ (fun i σ H' _ e => SqL.keep e.2.1 SL (SqL.of hS)) (fun i z σ H' hz e => ?_) (fun σ H' e => ?_)
      · obtain ⟨s3, k3, ⟨z1, z2, z3, rfl⟩, vs, hL, hvs⟩ := e
        rw [List.getElem?_map] at hz
        obtain ⟨T, hT, rfl⟩ := Option.map_eq_some_iff.mp hz
        have il := (List.getElem?_eq_some_iff.mp hT).1
        obtain ⟨k, hk1⟩ : ∃ k, ks[i]? = some k := ⟨_, List.getElem?_eq_getElem (by omega)⟩
        obtain ⟨bx, hbx⟩ : ∃ b, (x :: (os ++ [y]))[i]? = some b := ⟨_, List.getElem?_eq_getElem (by simp; omega)⟩
        obtain ⟨by', hby⟩ : ∃ b, (os ++ [y])[i]? = some b := ⟨_, List.getElem?_eq_getElem (by simp; omega)⟩
        have hTt := tr i T (.ref k) bx by' hT (by rw [List.getElem?_map, hk1]; rfl) hbx hby
        obtain ⟨dx', hdx1, hdx2⟩ := dall_at' bnd hbx
        obtain ⟨dy', hdy1, hdy2⟩ := dall_at' bnd2 hby
        rw [List.getElem?_map] at hdx1 hdy1
        obtain ⟨pa, hpa, rfl⟩ := Option.map_eq_some_iff.mp hdx1
        obtain ⟨pb, hpb, rfl⟩ := Option.map_eq_some_iff.mp hdy1
        obtain ⟨tk, htk, hPk⟩ := parts_at h3 hk1
        have hWi := Wa i tk pa pb hlen htk hpa hpb
        rw [List.getElem?_map] at htk
        obtain ⟨l, hl1, rfl⟩ := Option.map_eq_some_iff.mp htk
        have hlm := List.mem_of_getElem? hl1
        have fpa : OF pa := ofo pa (List.mem_of_getElem? hpa)
        have fpb : OF pb := ofo pb (List.mem_cons_of_mem _ (List.mem_of_getElem? hpb))
        have TL : T ≠ L := fun e => by
          rw [e, e2] at hTt
          cases hTt
        have hT' := k3 _ _ TL hTt
        have lvs : vs.length + 1 ≤ sizeLine := by
          have h := ddAll_len hvs
          rw [List.length_take, shDs_map, List.length_map, Wl, List.length_map] at h
          rw [sizeLine_eq]
          omega
        have grow : ∀ (v : V) (u : Tr) (H4 : Hp), W[i]? = some u → Same H' H4 → Dd K H4 v (shD u) → Same H (upd H4 L (.lst (vs ++ [v]))) ∧ Keep L H2 (upd H4 L (.lst (vs ++ [v]))) ∧ ∃ ws, upd H4 L (.lst (vs ++ [v])) L = some (.lst ws) ∧ DdAll K (upd H4 L (.lst (vs ++ [v]))) ws ((shDs W).take (i + 1)) := fun v u H4 hu s4 hv => by
          have kD : Kt CP H4 (upd H4 L (.lst (vs ++ [v]))) := kt_upd (s4 _ _ hL) (fun e => e)
          have e3 : (shDs W)[i]? = some (shD u) := by
            rw [shDs_map, List.getElem?_map, hu]
            rfl
          refine ⟨same_updN (Same.trans s3 s4) nL, (k3.trans (keepS s4)).upd, vs ++ [v], upd_same, ?_⟩
          rw [take_snoc e3]
          refine dds_kt kD (keyTs_all.mpr fun z hz => ?_) (ddAll_snoc (DdAll.same s4 hvs) hv)
          rw [← take_snoc e3] at hz
          exact keyTs_mem Wk (List.mem_of_mem_take hz)
        refine ⟨T, _, rfl, .inl (.inl hT'), rfl, .ref k, [bx, by'], rfl, bx, [by'], rfl, by', [], rfl, rfl, ?_⟩
        refine ⟨_, rfl, _, rfl, _, rfl, sv, bx, by', d, ts0, pa, pb, rfl, hsv.same s3, hns, hdx2.same s3, hdy2.same s3, fpa, fpb, fun H3 s4 => ⟨_, rfl, ?_⟩⟩
        have s34 := Same.trans s3 s4
        have hL3 := s4 _ _ hL
        refine tst (fun e => ?_) fun e => ?_
        · rw [if_pos e] at hWi
          obtain ⟨C', dx2, fs2, hk3, hC', ln', lm'⟩ := part_nm (hPk.kt (kt_same s34))
          obtain ⟨hC2, nu2, nM2⟩ : Cls K C' ∧ NoAttr K C' "number" ∧ NoAttr K C' "many" := by
            rcases hC' with rfl | rfl
            · exact ⟨hC, nu, nM⟩
            · exact ⟨hU.c, hU.n, hU.m⟩
          refine ⟨.ref L, rfl, .inl ⟨rfl, _, SqL.of hL3⟩, _, rfl, k, C', dx2, fs2, _, rfl, hk3, hC2, nu2, ln', _, rfl, k, C', dx2, fs2, _, rfl, hk3, hC2, nM2, lm', (by rw [sizeLine_eq]; exact (by decide : 3 ≤ 16777216)), fun T3 nT3 => ?_⟩
          have s5 := same_up (o := .tup [V.str ("cut" : Str), .int (trNum p (tree p l)), .int (trMany (tree p l) : Int)]) nT3
          obtain ⟨g1, g2, g3⟩ := grow (.ref T3) _ _ hWi (Same.trans s4 s5) (by
            rw [cut_sh]
            exact .tup (.inl upd_same) (.cons (.str _) (.cons (.int _) (.cons (.int _) .nil))))
          exact ⟨L, vs, _, rfl, rfl, s5 _ _ hL3, lvs, g1, g2, ⟨_, _, _, rfl⟩, g3⟩
        · rw [if_neg (by rw [e]; exact Bool.false_ne_true)] at hWi
          refine ⟨.ref L, rfl, .inl ⟨rfl, _, SqL.of hL3⟩, _, rfl, _, rfl, _, rfl, _, rfl, k, l, bx, by', sv, pa, pb, d, ts0, rfl, hPk.kt (kt_same s34), (hin l hlm).1, Nat.le_trans (piece_len hlm) zd, (hin l hlm).2, hdx2.same s34, hdy2.same s34, fpa, fpb, hsv.same s34, hns, fun v H4 s5 hv => ?_⟩
          obtain ⟨g1, g2, g3⟩ := grow v _ H4 hWi (Same.trans s4 s5) hv
          exact ⟨L, vs, v, rfl, rfl, s5 _ _ hL3, lvs, g1, g2, ⟨_, _, _, rfl⟩, g3⟩
      · obtain ⟨s3, k3, ⟨z1, z2, z3, rfl⟩, vs, hL, hvs⟩ := e
        rw [List.take_of_length_le (by rw [shDs_map, List.length_map, Wl, List.length_map, List.length_map]; omega)] at hvs
        refine ⟨_, rfl, L, vs, rfl, .inl ⟨SqL.of hL, fun T nT => ?_⟩⟩
        have s4 := Same.trans s3 (same_up (o := .tup vs) nT)
        refine ⟨.ref a, rfl, a, CP, dx, _, .ref o, rfl, s4 _ _ h1, hC, nO, rfl, (by rw [sizeLine_eq]; exact (by decide : 3 ≤ 16777216)), fun T2 nT2 => q _ _ (Same.trans s4 (same_up nT2)) ?_⟩
        have s5 : Same _ _ := same_up (o := .tup [V.str ("node" : Str), .ref T, .ref o]) nT2
        have hne : W.isEmpty = false := by
          cases hp : W with
          | nil => rw [hp, hlen] at Wl; cases Wl
          | cons _ _ => rfl
        unfold shD
        rw [hne, if_neg Bool.false_ne_true]
        exact .tup (.inl upd_same) (.cons (.str _) (.cons (.tup (.inl (s5 _ _ upd_same)) (DdAll.same s5 (DdAll.same (same_up nT) hvs))) (.cons (h4.same (Same.trans s4 s5)) .nil)))
end
end Sm
/-! shown; _law_tree. -/
namespace Sm
open PySem PySem.Spec PyProof.Rows L2 Vd RZ
section
variable {P : Program} {w : World} {K : PySem.W.Frag} {mg : Str → Option Value} {base : Heap}
theorem scShown : FnScope ["tree", "stretches"] ["tree", "stretches"] (defScope sShown) := ⟨rfl, rfl, rfl, by decide +kernel, rfl, by decide +kernel, by decide +kernel⟩
def spShown (CP CT : Addr) (K : PySem.W.Frag) : Sp := fun vs H Q _ => ∃ (t : Addr) (p : Int) (v sv : V) (ds : List PyData) (d : PyData) (ts : List Stt), vs = [.ref t, sv] ∧ TreeAt CP CT p K H t v ds ∧ ds.length ≤ 3000 ∧ FactL ds ∧ Dd K H sv d ∧ StrsK d ts ∧ ∀ u H', Same H H' → Dd K H' u (shD (sct ts p (tree p ds) none none)) → Q u H'
theorem ok_shown {CP CT : Addr} {f : Addr} {fd : FuncData} (F : FnP K "shown" sShown f fd) (DCS : Df P w K mg base "check_stretches" 5 ["thing"] (spCkS K)) (DSO : ∀ p, Df P w K mg base "showing_of" 15 ["part", "ahead", "behind", "stretches"] (spShow CP p K 7)) (hCT : Cls K CT) (hNo : ∀ f ∈ (["_top", "_many_made", "p", "facts", "many", "number"] : List Str), NoAttr K CT f) : FnOk P w K mg base CX0 16 f fd ["tree", "stretches"] (spShown CP CT K) := by
  refine F.ok scShown (fun vs H Q E h => ?_) (fun cdv A outer s H vs Q E hr h => ?_)
  · obtain ⟨t, p, v, sv, ds, d, ts, rfl, _⟩ := h
    rfl
  obtain ⟨t, p, v, sv, ds, d, ts, rfl, ⟨dx, a, ht, hP, hv⟩, zd, hf, hsv, hns, q⟩ := h
  refine ⟨_, PSs.nox (pss_cons (ps_expr (pe_df DCS hr (by decide) (pa_cons (pv 1) pa_nil)))
      (pss_one (ps_ret (pe_df (DSO p) hr (by decide) (pa_cons (pe_fld (pv 0) (by rfl)) (pa_cons pe_non (pa_cons pe_non (pa_cons (pv 1) pa_nil)))))))), ?_⟩
  refine ⟨_, rfl, sv, d, ts, rfl, hsv, hns, fun H1 s1 => ?_⟩
  refine ⟨.ref t, rfl, t, CT, dx, _, .ref a, rfl, s1 _ _ ht, hCT, hNo _ (by simp), rfl, _, rfl, a, ds, .non, .non, sv, none, none, d, ts, rfl, hP.kt (kt_same s1), fun e _ => rkI_le _, zd, hf, .non, .non, (fun e he => nomatch he), (fun e he => nomatch he), hsv.same s1, hns, fun u H' s' hu => q u H' (Same.trans s1 s') hu⟩
/-! ### the law's own tree -/
theorem treeF_key (p : Int) : ∀ (k : Nat) (ds : List PyData), keyTs ds = true → keyT (shD (treeF p k ds)) = true
  | 0, ds, h => by
    unfold treeF shD
    simp [keyT, keyTs, h]
  | k + 1, ds, h => by
    unfold treeF
    split
    · have h1 : keyTs (owns (fun d => rkP p d == k + 1) ds) = true := keyTs_all.mpr fun d hd => keyTs_mem h (owns_in d hd).1
      have h2 : keyTs (shDs ((pieces (fun d => rkP p d == k + 1) ds).map (treeF p k))) = true := by
        rw [shDs_map]
        refine keyTs_all.mpr fun d hd => ?_
        rw [List.map_map] at hd
        obtain ⟨l, hl, rfl⟩ := List.mem_map.mp hd
        exact treeF_key p k l (keyTs_all.mpr fun d hd => keyTs_mem h (pieces_in hl d hd).1)
      unfold shD
      split
      · simp [keyT, keyTs, h1]
      · simp [keyT, keyTs, h1, h2]
    · exact treeF_key p k ds h
theorem tree_key {p : Int} {ds : List PyData} (h : keyTs ds = true) : keyT (shD (tree p ds)) = true := treeF_key p 6 ds h
theorem cut_take {q : PyData → Bool} {ds : List PyData} {i : Nat} {d : PyData} (h : ds[i]? = some d) : cutA q (ds.take (i + 1)) = cutS q (cutA q (ds.take i)) d := by
  rw [take_snoc h]
  unfold cutA
  rw [List.foldl_append]
  rfl
theorem cut_in {q : PyData → Bool} {ds : List PyData} : (∀ l ∈ (cutA q ds).1, ∀ d ∈ l, d ∈ ds ∧ q d = false) ∧ (∀ d ∈ (cutA q ds).2.1, d ∈ ds ∧ q d = true) ∧ ∀ d ∈ (cutA q ds).2.2, d ∈ ds ∧ q d = false := cut_inv (q := q) (all := ds) (ds := ds) (s := ([], [], [])) (fun _ h => h) (fun _ h => (nomatch h)) (fun _ h => (nomatch h)) (fun _ h => (nomatch h))
theorem cut_len (q : PyData → Bool) (ds : List PyData) : (cutA q ds).1.length ≤ ds.length ∧ (cutA q ds).2.1.length ≤ ds.length ∧ (cutA q ds).2.2.length ≤ ds.length ∧ ∀ l ∈ (cutA q ds).1, l.length ≤ ds.length := by
  have h := cut_many q ds ([], [], [])
  have e := (cut_weave q ds).1
  have h' : ((cutA q ds).1.map List.length).sum + (cutA q ds).2.1.length + (cutA q ds).2.2.length = ds.length := by
    simpa [cutA] using h
  refine ⟨by omega, by omega, by omega, fun l hl => ?_⟩
  have := le_sum (List.mem_map_of_mem (f := List.length) hl)
  omega
theorem keyTs_app {ds : List PyData} {d : PyData} (h : keyTs ds = true) (k : keyT d = true) : keyTs (ds ++ [d]) = true := keyTs_all.mpr fun e he => by
  rcases List.mem_append.mp he with he | he
  · exact keyTs_mem h he
  · rw [List.mem_singleton.mp he]
    exact k
theorem scLTree : FnScope ["p", "facts", "ranks", "top", "children", "own", "here", "fact", "rank"] ["p", "facts"] (defScope sLTree) := ⟨rfl, rfl, rfl, by decide +kernel, rfl, by decide +kernel, by decide +kernel⟩
def spLTree (K : PySem.W.Frag) : Nat → Sp
  | 0 => fun _ _ _ _ => False
  | k + 1 => fun vs H Q _ => ∃ (p : Int) (a : Addr) (xs : List V) (ds : List PyData), vs = [.int p, .ref a] ∧ 1 < p ∧ p ≤ 170141183460469231731687303715884105728 ∧ (H a = some (.lst xs) ∨ TupN H a xs) ∧ DdAll K H xs ds ∧ ds.length ≤ 3000 ∧ FactL ds ∧ (∀ e ∈ ds, rkP p e ≤ k) ∧ ∀ v H', Same H H' → Dd K H' v (shD (tree p ds)) → Q v H'
theorem ok_ltree {f : Addr} {fd : FuncData} (F : FnP K "_law_tree" sLTree f fd) (hm : mg "_law_tree" = some (.ref f)) (hk : PySem.W.keepIn K (.ref f) = true) (hb : Binds K fd ["p", "facts"] []) (M : Nm mg) (M2 : Nm2 mg) (DR : Df P w K mg base "_law_rank" 4 ["p", "fact"] (spLRank K)) : ∀ k, FnOk P w K mg base CX0 (5 + k) f fd ["p", "facts"] (spLTree K k)
  | 0 => ⟨fun vs H Q E h => h.elim, fun A outer s H args us vs Q E hr e0 hb' r h => h.elim⟩
  | n + 1 => by
    have DS : Df P w K mg base "_law_tree" (5 + n) ["p", "facts"] (spLTree K n) := ⟨f, fd, hm, hk, hb, ok_ltree F hm hk hb M M2 DR n⟩
    refine F.ok scLTree (fun vs H Q E h => ?_) (fun cdv A outer s H vs Q E hr h => ?_)
    · obtain ⟨p, a, xs, ds, rfl, _⟩ := h
      rfl
    obtain ⟨p, a, xs, ds, rfl, p1, p2, hxs, hdd, zd, hf, hrk, q⟩ := h
    have lxs := dall_len hdd
    have hkey := (facts_dp hf).1
    have hst : ∀ H', Same H H' → Stands H a H' := fun H' s' o e => s' _ _ e
    obtain ⟨oa, hoa⟩ : ∃ o, H a = some o := by
      rcases hxs with h | h | ⟨o, h⟩ <;> exact ⟨_, h⟩
    refine ⟨_, PSs.nox (pss_cons (ps_setLc (i := 2) (own := [("fact", 7)]) (g := gName 7) (tt := tYes) rfl scLTree.nd rfl rfl (sw_true rfl rfl rfl (by decide +kernel)) (pi_seq (pv 1)) (blkOk_by (N := ["p", "facts", "ranks", "top", "children", "own", "here", "fact", "rank"]) (sc := defScope sLTree) (by decide +kernel)) (fun _ _ _ _ _ => pg_name (i := 7) scLTree.nd rfl (Or.inl rfl)) (fun _ _ _ _ _ => pts_nil) (fun _ _ _ _ _ => (pe_df DR hr (le5 (by decide)) (pa_cons (pv 0) (pa_cons (pv 7) pa_nil)))))
      (pss_cons (ps_set (i := 3) scLTree.nd rfl (Or.inl rfl) (pe_callB (r := rMax K) (cr_max rfl) (by rfl) M2.max (by decide +kernel) (pa_cons (pe_op op_cat (pe_lst (pa_cons pe_int pa_nil)) (pv 2)) pa_nil)))
      (pss_cons (ps_if (pt_cmpR op_eq (pv 3) pe_int (nomark _)) (pss_one (ps_ret (pe_tup (pa_cons pe_str (pa_cons (pe_callTy (r := rTupOf K) call_tuple_of (by rfl) M.tuple (by decide +kernel) (pa_cons (pv 1) pa_nil)) pa_nil))))) pss_nil)
      (pss_cons (ps_par3 (i := 4) (j := 5) (l := 6) (by rfl) scLTree.nd rfl rfl rfl (by decide) (by decide) (by decide) rfl rfl rfl (pa_cons (pe_lst pa_nil) (pa_cons (pe_lst pa_nil) (pa_cons (pe_lst pa_nil) pa_nil))) (by rfl))
      (pss_cons (ps_for PassesOwn.never rfl (pi_zipM (by rfl) M2.zip (pa_cons (pv 1) (pa_cons (pv 2) pa_nil))) (pg_tup rfl (pgs_cons (pg_name (i := 7) scLTree.nd rfl (Or.inl rfl)) (pgs_cons (pg_name (i := 8) scLTree.nd rfl (Or.inl rfl)) pgs_nil))) (pss_one (ps_if (pt_cmpR op_eq (pv 8) (pv 3) (nomark _)) (pss_cons (ps_expr (pe_bm PySem.F.plainAttrs_list PySem.F.slot_list_append PySem.F.type_list_append mt_append (pv 4) (pa_cons (pe_df DS hr (Nat.le_refl _) (pa_cons (pv 0) (pa_cons (pv 6) pa_nil))) pa_nil)))
      (pss_cons (ps_expr (pe_bm PySem.F.plainAttrs_list PySem.F.slot_list_append PySem.F.type_list_append mt_append (pv 5) (pa_cons (pv 7) pa_nil)))
      (pss_one (ps_set (i := 6) scLTree.nd rfl (Or.inl rfl) (pe_lst pa_nil))))) (pss_one (ps_expr (pe_bm PySem.F.plainAttrs_list PySem.F.slot_list_append PySem.F.type_list_append mt_append (pv 6) (pa_cons (pv 7) pa_nil)))))))
      (pss_one (ps_ret (pe_tup (pa_cons pe_str (pa_cons (pe_callTy (r := rTupOf K) call_tuple_of (by rfl) M.tuple (by decide +kernel) (pa_cons (pe_op op_cat (pv 4) (pe_lst (pa_cons (pe_df DS hr (Nat.le_refl _) (pa_cons (pv 0) (pa_cons (pv 6) pa_nil))) pa_nil))) pa_nil)) (pa_cons (pe_callTy (r := rTupOf K) call_tuple_of (by rfl) M.tuple (by decide +kernel) (pa_cons (pv 5) pa_nil)) pa_nil))))))))))), ?_⟩
    refine ⟨_, rfl, a, xs, rfl, ?_, fun J wk D hD => ?_⟩
    · rcases hxs with h | h
      · exact .inl (SqL.of h)
      · exact .inr h.sq
    refine lc_it wk (fun i H' => Same H H' ∧ H' D = some (.lst (((ds.map fun d => (rkP p d : Int)).take i).map V.int))) ⟨same_up hD, upd_same⟩ (fun i H' _ e => hst H' e.1) (fun i x H1 H' hi e y => ?_) (fun H2 e => ?_)
    · obtain ⟨s1, hy⟩ := e
      obtain ⟨rfl, hx⟩ := y
      obtain ⟨d, hd1, hd2⟩ := dall_at' hdd hx
      have hfd := hf d (List.mem_of_getElem? hd1)
      refine ⟨rfl, _, rfl, _, rfl, p, x, d, rfl, by omega, p2, hd2.same s1, hfd.1, hfd.2, fun H2 s2 => ⟨_, s2 _ _ hy, ?_, same_updN (Same.trans s1 s2) hD, ?_⟩⟩
      · rw [List.length_map, List.length_take, List.length_map, sizeLine_eq]
        omega
      · rw [upd_same, take_snoc (xs := ds.map fun d => (rkP p d : Int)) (x := (rkP p d : Int)) (by rw [List.getElem?_map, hd1]; rfl), List.map_append]
        rfl
    obtain ⟨s2, hy⟩ := e
    rw [List.take_of_length_le (by rw [List.length_map]; omega)] at hy
    refine ⟨by rw [sizeLine_eq]; decide, fun l0 hl0 => ⟨_, rfl, l0, D, _, _, rfl, rfl, upd_same, same_up hl0 _ _ hy, by simp [sizeLine_eq]; omega, fun l1 hl1 => ?_⟩⟩
    have s3 := Same.trans (Same.trans s2 (same_up (o := .lst [V.int 0]) hl0)) (same_up (o := .lst ([V.int 0] ++ (ds.map fun d => (rkP p d : Int)).map V.int)) hl1)
    have hy3 := same_up (o := .lst ([V.int 0] ++ (ds.map fun d => (rkP p d : Int)).map V.int)) hl1 _ _ (same_up (o := .lst [V.int 0]) hl0 _ _ hy)
    have e3 : upd (upd H2 l0 (.lst [V.int 0])) l1 (.lst ([V.int 0] ++ (ds.map fun d => (rkP p d : Int)).map V.int)) l1 = some (.lst ((0 :: ds.map fun d => (rkP p d : Int)).map V.int)) := upd_same
    generalize upd (upd H2 l0 (.lst [V.int 0])) l1 (.lst ([V.int 0] ++ (ds.map fun d => (rkP p d : Int)).map V.int)) = H3 at s3 hy3 e3 ⊢
    refine ⟨l1, _, rfl, SqL.of e3, by simp, fun mx hm1 hm2 => ?_⟩
    obtain ⟨t, rfl, ht1, ht2⟩ : ∃ t : Nat, mx = (t : Int) ∧ (t ≠ 0 → ∃ d ∈ ds, rkP p d = t) ∧ ∀ d ∈ ds, rkP p d ≤ t := by
      have h2 : ∀ d ∈ ds, (rkP p d : Int) ≤ mx := fun d hd => hm2 _ (List.mem_cons_of_mem _ (List.mem_map.mpr ⟨d, hd, rfl⟩))
      rcases List.mem_cons.mp hm1 with rfl | h1
      · exact ⟨0, rfl, fun h => absurd rfl h, fun d hd => by have := h2 d hd; omega⟩
      · obtain ⟨d, hd, rfl⟩ := List.mem_map.mp h1
        exact ⟨_, rfl, fun _ => ⟨d, hd, rfl⟩, fun e he => by have := h2 e he; omega⟩
    clear hm1 hm2 e3 hl1 hl0 hy hD s2 wk
    have hxs3 : SqL K H3 a xs ∨ SqT K H3 a xs := by
      rcases hxs with h | h
      · exact .inl (SqL.of (s3 _ _ h))
      · exact .inr (h.same s3).sq
    have hdd3 := DdAll.same s3 hdd
    refine ⟨_, rfl, rfl, _, rfl, tst (fun e1 => ?_) fun e1 => ?_⟩
    · obtain rfl : t = 0 := by
        have := of_decide_eq_true e1
        simpa using this
      have e : tree p ds = .mk [] ds := tree_leaf fun d hd => by
        have := ht2 d hd
        omega
      rw [e] at q
      refine ⟨_, rfl, a, xs, rfl, ?_⟩
      rcases hxs with h | h
      · refine .inl ⟨SqL.of (s3 _ _ h), fun l nl => ⟨(by rw [sizeLine_eq]; exact (by decide : 2 ≤ 16777216)), fun T nT => q _ _ (Same.trans s3 (Same.trans (same_up nl) (same_up nT))) ?_⟩⟩
        exact .tup (.inl upd_same) (.cons (.str _) (.cons (.tup (.inl (same_up nT _ _ upd_same)) (DdAll.same (Same.trans (same_up nl) (same_up nT)) hdd3)) .nil))
      · refine .inr ⟨(h.same s3).sq, (by rw [sizeLine_eq]; exact (by decide : 2 ≤ 16777216)), fun T nT => q _ _ (Same.trans s3 (same_up nT)) ?_⟩
        exact .tup (.inl upd_same) (.cons (.str _) (.cons (.tup ((h.same s3).same (same_up nT)) (DdAll.same (same_up nT) hdd3)) .nil))
    · have t0 : t ≠ 0 := fun e => by
        subst e
        cases e1
      obtain ⟨t', rfl⟩ : ∃ t', t = t' + 1 := ⟨t - 1, by omega⟩
      obtain ⟨dm, hdm, edm⟩ := ht1 t0
      obtain ⟨n', rfl⟩ : ∃ n', n = n' + 1 := ⟨n - 1, by have := hrk dm hdm; omega⟩
      have t6 : t' + 1 ≤ 6 := by
        rw [← edm]
        exact rkI_le _
      have et := tree_node (p := p) ht2 ⟨dm, hdm, edm⟩ t6
      have hQ : ∀ d, (fun d => rkP p d == t' + 1) d = decide (V.int (rkP p d : Int) = V.int ((t' + 1 : Nat) : Int)) := fun d => by
        show (rkP p d == t' + 1) = _
        by_cases h : rkP p d = t' + 1
        · rw [h]
          simp
        · rw [beq_eq_false_iff_ne.mpr h, decide_eq_false]
          intro e
          injection e with e
          omega
      have hle := ht2
      have tn : t' ≤ n' := by
        have := hrk dm hdm
        omega
      have hlow : ∀ d ∈ ds, (fun d => rkP p d == t' + 1) d = false → rkP p d ≤ n' := fun d hd h2 => by
        have h3 := hle d hd
        have := beq_eq_false_iff_ne.mp h2
        omega
      generalize hq : (fun d => rkP p d == t' + 1) = Q1 at et hQ hlow
      refine ⟨by rw [sizeLine_eq]; decide, fun Lc nc => ⟨by rw [sizeLine_eq]; decide, fun Lo no => ⟨by rw [sizeLine_eq]; decide, fun Lh nh => ⟨_, _, _, rfl, ?_⟩⟩⟩⟩
      have sA : Same H3 (upd H3 Lc (.lst [])) := same_up nc
      have sB : Same (upd H3 Lc (.lst [])) (upd (upd H3 Lc (.lst [])) Lo (.lst [])) := same_up no
      have sC : Same (upd (upd H3 Lc (.lst [])) Lo (.lst [])) (upd (upd (upd H3 Lc (.lst [])) Lo (.lst [])) Lh (.lst [])) := same_up nh
      have nco : Lc ≠ Lo := ne_of_none (H := upd H3 Lc (.lst [])) upd_same no
      have nhc : Lh ≠ Lc := (ne_of_none (H := upd (upd H3 Lc (.lst [])) Lo (.lst [])) (sB _ _ upd_same) nh).symm
      have nho : Lh ≠ Lo := (ne_of_none (H := upd (upd H3 Lc (.lst [])) Lo (.lst [])) upd_same nh).symm
      have no3 := none_of_same sA no
      have nh3 := none_of_same (Same.trans sA sB) nh
      have s36 := Same.trans sA (Same.trans sB sC)
      have hc6 := sC _ _ (sB _ _ (upd_same (H := H3) (a := Lc) (o := .lst [])))
      have ho6 := sC _ _ (upd_same (H := upd H3 Lc (.lst [])) (a := Lo) (o := .lst []))
      have hh6 := (upd_same (H := upd (upd H3 Lc (.lst [])) Lo (.lst [])) (a := Lh) (o := .lst []))
      generalize upd (upd (upd H3 Lc (.lst [])) Lo (.lst [])) Lh (.lst []) = H6 at s36 hc6 ho6 hh6 ⊢
      clear sA sB sC no nh
      have hxs6 : SqL K H6 a xs ∨ SqT K H6 a xs := by
        rcases hxs3 with h | h
        · exact .inl (Same.seq s36 h)
        · exact .inr (SqT.ext h s36)
      refine ⟨_, rfl, _, rfl, a, D, xs, (ds.map fun d => (rkP p d : Int)).map V.int, rfl, SqL.of (s36 _ _ hy3), hxs6, fun J wk => ?_⟩
      have hmin : min xs.length ((ds.map fun d => (rkP p d : Int)).map V.int).length = ds.length := by
        rw [List.length_map, List.length_map, lxs, Nat.min_self]
      rw [hmin] at wk
      refine for_it wk (fun i σ H' => Same H3 H' ∧ ∃ (Lh' : Addr) (z1 z2 : Option V) (vC vO vH : List V), σ = [some (.int p), some (.ref a), some (.ref D), some (.int ((t' + 1 : Nat) : Int)), some (.ref Lc), some (.ref Lo), some (.ref Lh'), z1, z2] ∧ Lh' ≠ Lc ∧ Lh' ≠ Lo ∧ H3 Lh' = none ∧ H' Lc = some (.lst vC) ∧ DdAll K H' vC ((cutA Q1 (ds.take i)).1.map fun l => shD (tree p l)) ∧ H' Lo = some (.lst vO) ∧ DdAll K H' vO (cutA Q1 (ds.take i)).2.1 ∧ H' Lh' = some (.lst vH) ∧ DdAll K H' vH (cutA Q1 (ds.take i)).2.2)
        ⟨s36, Lh, none, none, [], [], [], rfl, nhc, nho, nh3, hc6, .nil, ho6, .nil, hh6, .nil⟩ (fun i σ H' _ e => ⟨fun o ho => ?_, SqL.of (e.1 _ _ hy3)⟩) (fun i x σ H' H'' hi e y => ?_) (fun σ H' e => ?_)
      · have h3 := s3 _ _ hoa
        rw [s36 _ _ h3] at ho
        cases ho
        exact e.1 _ _ h3
      · obtain ⟨s4, Lh', z1, z2, vC, vO, vH, rfl, n1, n2, n3, hC, dC, hO, dO, hH, dH⟩ := e
        obtain ⟨T, x1, y1, rfl, nT, rfl, ex, ey⟩ := y
        dsimp only at ex ey
        obtain ⟨d, hd1, hd2⟩ := dall_at' hdd3 ex
        rw [List.getElem?_map, List.getElem?_map, hd1] at ey
        cases ey
        have hdm' := List.mem_of_getElem? hd1
        have hc := cut_take (q := Q1) hd1
        have sT : Same H' (upd H' T (.tup [x1, V.int (rkP p d : Int)])) := same_up nT
        refine ⟨T, _, rfl, .inl (.inl upd_same), rfl, x1, [V.int (rkP p d : Int)], rfl, V.int (rkP p d : Int), [], rfl, rfl, ?_⟩
        refine ⟨_, rfl, _, rfl, rfl, _, rfl, ?_⟩
        rw [← hQ d]
        have s5 := Same.trans s4 sT
        have hC5 := sT _ _ hC
        have hO5 := sT _ _ hO
        have hH5 := sT _ _ hH
        have dC5 := DdAll.same sT dC
        have dO5 := DdAll.same sT dO
        have dH5 := DdAll.same sT dH
        generalize upd H' T (.tup [x1, V.int (rkP p d : Int)]) = H5 at s5 hC5 hO5 hH5 dC5 dO5 dH5 ⊢
        have cin := cut_in (q := Q1) (ds := ds.take i)
        have clen := cut_len Q1 (ds.take i)
        have ztk : (ds.take i).length ≤ ds.length := by rw [List.length_take]; omega
        have kO : keyTs (cutA Q1 (ds.take i)).2.1 = true := keyTs_all.mpr fun e he => keyTs_mem hkey (List.mem_of_mem_take (cin.2.1 e he).1)
        have kH : keyTs (cutA Q1 (ds.take i)).2.2 = true := keyTs_all.mpr fun e he => keyTs_mem hkey (List.mem_of_mem_take (cin.2.2 e he).1)
        have kC : keyTs ((cutA Q1 (ds.take i)).1.map fun l => shD (tree p l)) = true := keyTs_all.mpr fun e he => by
          obtain ⟨l, hl, rfl⟩ := List.mem_map.mp he
          exact tree_key (keyTs_all.mpr fun z hz => keyTs_mem hkey (List.mem_of_mem_take (cin.1 l hl z hz).1))
        have kd := keyTs_mem hkey hdm'
        have lC := ddAll_len dC5
        have lO := ddAll_len dO5
        have lH := ddAll_len dH5
        rw [List.length_map] at lC
        cases hq1 : Q1 d with
        | true =>
          have fH : FactL (cutA Q1 (ds.take i)).2.2 := fun e he => hf e (List.mem_of_mem_take (cin.2.2 e he).1)
          refine iteT ⟨.ref Lc, rfl, .inl ⟨rfl, _, SqL.of hC5⟩, _, rfl, _, rfl, p, Lh', vH, (cutA Q1 (ds.take i)).2.2, rfl, p1, p2, .inl hH5, dH5, by omega, fH, fun e he => hlow e (List.mem_of_mem_take (cin.2.2 e he).1) (cin.2.2 e he).2, fun v H7 s7 hv => ⟨Lc, vC, v, rfl, rfl, s7 _ _ hC5, by rw [sizeLine_eq]; omega, ?_⟩⟩
          have k8 : Kt 0 H7 (upd H7 Lc (.lst (vC ++ [v]))) := kt_upd (s7 _ _ hC5) (fun e => e)
          have hO8 : upd H7 Lc (.lst (vC ++ [v])) Lo = some (.lst vO) := by rw [upd_ne nco.symm]; exact s7 _ _ hO5
          have e8 : upd H7 Lc (.lst (vC ++ [v])) Lc = some (.lst (vC ++ [v])) := upd_same
          have s8 : Same H3 (upd H7 Lc (.lst (vC ++ [v]))) := same_updN (Same.trans s5 s7) nc
          have x8 := dd_kt k8 kd ((hd2.same s5).same s7)
          have dO8 := dds_kt k8 kO (DdAll.same s7 dO5)
          have kv : keyT (shD (tree p (cutA Q1 (ds.take i)).2.2)) = true := tree_key kH
          have dC8 := dds_kt k8 (keyTs_app kC kv) (ddAll_snoc (DdAll.same s7 dC5) hv)
          generalize upd H7 Lc (.lst (vC ++ [v])) = H8 at k8 hO8 e8 s8 x8 dO8 dC8 ⊢
          refine ⟨.ref Lo, rfl, .inl ⟨rfl, _, SqL.of hO8⟩, _, rfl, Lo, vO, x1, rfl, rfl, hO8, by rw [sizeLine_eq]; omega, ?_⟩
          have k9 : Kt 0 H8 (upd H8 Lo (.lst (vO ++ [x1]))) := kt_upd hO8 (fun e => e)
          have e9 : upd H8 Lo (.lst (vO ++ [x1])) Lo = some (.lst (vO ++ [x1])) := upd_same
          have hC9 : upd H8 Lo (.lst (vO ++ [x1])) Lc = some (.lst (vC ++ [v])) := by rw [upd_ne nco]; exact e8
          have s9 : Same H3 (upd H8 Lo (.lst (vO ++ [x1]))) := same_updN s8 no3
          have dC9 := dds_kt k9 (keyTs_app kC kv) dC8
          have dO9 := dds_kt k9 (keyTs_app kO kd) (ddAll_snoc dO8 x8)
          generalize upd H8 Lo (.lst (vO ++ [x1])) = H9 at k9 e9 hC9 s9 dC9 dO9 ⊢
          refine ⟨by rw [sizeLine_eq]; decide, fun L2 n4 => ?_⟩
          have s10 : Same H9 (upd H9 L2 (.lst [])) := same_up n4
          refine ⟨Same.trans s9 s10, L2, _, _, _, _, [], rfl, (ne_of_none hC9 n4).symm, (ne_of_none e9 n4).symm, none_of_same s9 n4, s10 _ _ hC9, ?_, s10 _ _ e9, ?_, upd_same, ?_⟩
          · rw [hc]
            unfold cutS
            rw [hq1, if_pos rfl, List.map_append]
            exact DdAll.same s10 dC9
          · rw [hc]
            unfold cutS
            rw [hq1, if_pos rfl]
            exact DdAll.same s10 dO9
          · rw [hc]
            unfold cutS
            rw [hq1, if_pos rfl]
            exact .nil
        | false =>
          refine iteF ⟨.ref Lh', rfl, .inl ⟨rfl, _, SqL.of hH5⟩, _, rfl, Lh', vH, x1, rfl, rfl, hH5, by rw [sizeLine_eq]; omega, ?_⟩
          have k8 : Kt 0 H5 (upd H5 Lh' (.lst (vH ++ [x1]))) := kt_upd hH5 (fun e => e)
          refine ⟨same_updN s5 n3, Lh', _, _, vC, vO, vH ++ [x1], rfl, n1, n2, n3, by rw [upd_ne n1.symm]; exact hC5, ?_, by rw [upd_ne n2.symm]; exact hO5, ?_, upd_same, ?_⟩
          · rw [hc]
            unfold cutS
            rw [hq1, if_neg Bool.false_ne_true]
            exact dds_kt k8 kC dC5
          · rw [hc]
            unfold cutS
            rw [hq1, if_neg Bool.false_ne_true]
            exact dds_kt k8 kO dO5
          · rw [hc]
            unfold cutS
            rw [hq1, if_neg Bool.false_ne_true]
            exact dds_kt k8 (keyTs_app kH kd) (ddAll_snoc dH5 (hd2.same s5))
      · obtain ⟨s4, Lh', z1, z2, vC, vO, vH, rfl, n1, n2, n3, hC, dC, hO, dO, hH, dH⟩ := e
        rw [List.take_length] at dC dO dH
        have cin := cut_in (q := Q1) (ds := ds)
        have clen := cut_len Q1 ds
        have fH : FactL (cutA Q1 ds).2.2 := fun e he => hf e (cin.2.2 e he).1
        have lC := ddAll_len dC
        rw [List.length_map] at lC
        refine ⟨_, rfl, _, rfl, _, rfl, p, Lh', vH, (cutA Q1 ds).2.2, rfl, p1, p2, .inl hH, dH, by omega, fH, fun e he => hlow e (cin.2.2 e he).1 (cin.2.2 e he).2, fun v H7 s7 hv => ⟨by rw [sizeLine_eq]; exact (by decide : 1 ≤ 16777216), fun l nl => ⟨Lc, l, vC, [v], rfl, rfl, same_up nl _ _ (s7 _ _ hC), upd_same, by rw [sizeLine_eq, List.length_singleton]; omega, fun l2 nl2 => ?_⟩⟩⟩
        have s8 := Same.trans s7 (Same.trans (same_up (o := .lst [v]) nl) (same_up (o := .lst (vC ++ [v])) nl2))
        have e8 : upd (upd H7 l (.lst [v])) l2 (.lst (vC ++ [v])) l2 = some (.lst (vC ++ [v])) := upd_same
        have dC8 : DdAll K (upd (upd H7 l (.lst [v])) l2 (.lst (vC ++ [v]))) (vC ++ [v]) ((pieces Q1 ds).map fun l => shD (tree p l)) := by
          unfold pieces
          rw [List.map_append]
          exact ddAll_snoc (DdAll.same s8 dC) (hv.same (Same.trans (same_up nl) (same_up nl2)))
        generalize upd (upd H7 l (.lst [v])) l2 (.lst (vC ++ [v])) = H8 at s8 e8 dC8 ⊢
        refine ⟨l2, _, rfl, .inl ⟨SqL.of e8, fun T1 nT1 => ⟨_, rfl, Lo, vO, rfl, .inl ⟨SqL.of (same_up nT1 _ _ (s8 _ _ hO)), fun T2 nT2 => ⟨by rw [sizeLine_eq]; exact (by decide : 3 ≤ 16777216), fun T3 nT3 => ?_⟩⟩⟩⟩⟩
        have t1 : Same H8 _ := same_up (o := .tup (vC ++ [v])) nT1
        have t2 : Same _ _ := same_up (o := .tup vO) nT2
        have t3 : Same _ _ := same_up (o := .tup [V.str ("node" : Str), .ref T1, .ref T2]) nT3
        refine q _ _ (Same.trans s3 (Same.trans s4 (Same.trans s8 (Same.trans t1 (Same.trans t2 t3))))) ?_
        rw [et]
        unfold shD
        have hne : ((pieces Q1 ds).map (tree p)).isEmpty = false := by
          have := pieces_len Q1 ds
          cases hp : pieces Q1 ds with
          | nil => rw [hp] at this; cases this
          | cons _ _ => rfl
        rw [hne, if_neg Bool.false_ne_true, shDs_map, List.map_map]
        exact .tup (.inl upd_same) (.cons (.str _) (.cons (.tup (.inl (t3 _ _ (t2 _ _ upd_same))) (DdAll.same (Same.trans t1 (Same.trans t2 t3)) dC8)) (.cons (.tup (.inl (t3 _ _ upd_same)) (DdAll.same (Same.trans s8 (Same.trans t1 (Same.trans t2 t3))) dO)) .nil)))
end
end Sm
/-! _law_pair, _law_count. -/
namespace Sm
open PySem PySem.Spec PyProof.Rows L2 Vd RZ
theorem shD_node {cs : List Tr} {own : List PyData} (h : cs.isEmpty = false) : shD (.mk cs own) = .tuple [.str "node", .tuple (shDs cs), .tuple own] := by
  unfold shD
  rw [h, if_neg Bool.false_ne_true]
/-- what is shown of a tree: a leaf, or a node of the trees of its pieces -/
theorem show_cases (p : Int) (ds : List PyData) : (tree p ds = .mk [] ds ∧ shD (tree p ds) = .tuple [.str "leaf", .tuple ds]) ∨ ∃ (m : Nat) (ls : List (List PyData)) (own : List PyData), (∃ d ∈ ds, rkP p d = m + 1) ∧ tree p ds = .mk (ls.map (tree p)) own ∧ ls.length = own.length + 1 ∧ shD (tree p ds) = .tuple [.str "node", .tuple (ls.map fun l => shD (tree p l)), .tuple own] ∧ (∀ l ∈ ls, (∀ d ∈ l, d ∈ ds ∧ rkP p d ≤ m) ∧ l.length ≤ ds.length) ∧ (∀ d ∈ own, d ∈ ds) ∧ own.length ≤ ds.length := by
  rcases tree_cases p ds with e | ⟨m, m6, hd, hle, e⟩
  · refine .inl ⟨e, ?_⟩
    rw [e]
    rfl
  · have hl : (pieces (fun d => rkP p d == m + 1) ds).length = (owns (fun d => rkP p d == m + 1) ds).length + 1 := by rw [pieces_len, places_len]
    refine .inr ⟨m, _, _, hd, e, hl, ?_, fun l hl => ⟨fun d hd => ?_, piece_len hl⟩, fun d hd => (owns_in d hd).1, ?_⟩
    · have hne : ((pieces (fun d => rkP p d == m + 1) ds).map (tree p)).isEmpty = false := by
        cases hp : pieces (fun d => rkP p d == m + 1) ds with
        | nil => rw [hp] at hl; cases hl
        | cons _ _ => rfl
      rw [e, shD_node hne, shDs_map, List.map_map]
      rfl
    · obtain ⟨h1, h2⟩ := pieces_in hl d hd
      have h3 := hle d h1
      have := beq_eq_false_iff_ne.mp h2
      exact ⟨h1, by omega⟩
    · rw [owns_filter]
      exact List.length_filter_le _ _
theorem trManys_take (p : Int) {ls : List (List PyData)} {i : Nat} {l : List PyData} (h : ls[i]? = some l) : trManys ((ls.map (tree p)).take (i + 1)) = trManys ((ls.map (tree p)).take i) + trMany (tree p l) := by
  have key : ∀ (ts : List Tr) (t : Tr), trManys (ts ++ [t]) = trManys ts + trMany t := fun ts t => by
    induction ts with
    | nil => simp [trManys]
    | cons a r ih =>
      rw [List.cons_append]
      unfold trManys
      rw [ih]
      omega
  rw [take_snoc (xs := ls.map (tree p)) (x := tree p l) (by rw [List.getElem?_map, h]; rfl), key]
theorem trCounts_sum (p : Int) : ∀ ls : List (List PyData), ((ls.map fun l => (trCount (tree p l) : Int)).sum : Int) = ((trCounts (ls.map (tree p)) : Nat) : Int)
  | [] => rfl
  | l :: r => by
    rw [List.map_cons, List.map_cons, List.sum_cons, trCounts_sum p r, show trCounts (tree p l :: r.map (tree p)) = trCount (tree p l) + trCounts (r.map (tree p)) from rfl]
    omega
theorem kids_ok {p : Int} {ls : List (List PyData)} (p1 : 1 < p) (p2 : p ≤ 170141183460469231731687303715884105728) (z : ∀ l ∈ ls, l.length ≤ 4000) : KidsOk p (ls.map (tree p)) := fun t ht => by
  obtain ⟨l, hl, rfl⟩ := List.mem_map.mp ht
  have h1 := trNum_rng p1 l
  have h2 := z l hl
  rw [tree_many]
  omega
theorem nums_small {p : Int} {ds : List PyData} (p1 : 1 < p) (p2 : p ≤ 170141183460469231731687303715884105728) : Small (ds.map (nmF p)) := fun m hm => by
  obtain ⟨d, _, rfl⟩ := List.mem_map.mp hm
  have := mixF_rng p1 (ftext d)
  unfold nmF
  omega
section
variable {P : Program} {w : World} {K : PySem.W.Frag} {mg : Str → Option Value} {base : Heap}
theorem scLPair : FnScope ["p", "tree", "numbers", "many", "at", "child", "number", "inside", "fact"] ["p", "tree"] (defScope sLPair) := ⟨rfl, rfl, rfl, by decide +kernel, rfl, by decide +kernel, by decide +kernel⟩
def spLPair (K : PySem.W.Frag) : Nat → Sp
  | 0 => fun _ _ _ _ => False
  | k + 1 => fun vs H Q _ => ∃ (p : Int) (v : V) (ds : List PyData), vs = [.int p, v] ∧ 1 < p ∧ p ≤ 170141183460469231731687303715884105728 ∧ Dd K H v (shD (tree p ds)) ∧ FactL ds ∧ ds.length ≤ 3000 ∧ (∀ e ∈ ds, rkP p e ≤ k) ∧ ∀ T H', Same H H' → TupN H' T [.int (trNum p (tree p ds)), .int (trMany (tree p ds) : Int)] → Q (.ref T) H'
theorem ok_lpair {f : Addr} {fd : FuncData} (F : FnP K "_law_pair" sLPair f fd) (hm : mg "_law_pair" = some (.ref f)) (hk : PySem.W.keepIn K (.ref f) = true) (hb : Binds K fd ["p", "tree"] []) (M : Nm mg) (M2 : Nm2 mg) (DMx : Df P w K mg base "_law_mix" 1 ["p", "text"] spMix) (DLT : Df P w K mg base "_law_list_text" 1 ["numbers"] (spNText K)) (DN : Df P w K mg base "_law_number" 3 ["p", "fact"] (spNum K)) : ∀ k, FnOk P w K mg base CX0 (5 + k) f fd ["p", "tree"] (spLPair K k)
  | 0 => ⟨fun vs H Q E h => h.elim, fun A outer s H args us vs Q E hr e0 hb' r h => h.elim⟩
  | n + 1 => by
    have DS : Df P w K mg base "_law_pair" (5 + n) ["p", "tree"] (spLPair K n) := ⟨f, fd, hm, hk, hb, ok_lpair F hm hk hb M M2 DMx DLT DN n⟩
    refine F.ok scLPair (fun vs H Q E h => ?_) (fun cdv A outer s H vs Q E hr h => ?_)
    · obtain ⟨p, v, ds, rfl, _⟩ := h
      rfl
    obtain ⟨p, v, ds, rfl, p1, p2, hv, hf, zd, hrk, q⟩ := h
    refine ⟨_, PSs.nox (pss_cons (ps_if (pt_cmpR op_eq (pe_ix (r := rIxT K) ix_tup (pv 1) pe_int (fun _ _ => rfl)) pe_str (nomark _)) (pss_one (ps_ret (pe_tup (pa_cons (pe_ix (r := rIxT K) ix_tup (pv 1) pe_int (fun _ _ => rfl)) (pa_cons (pe_ix (r := rIxT K) ix_tup (pv 1) pe_int (fun _ _ => rfl)) pa_nil))))) pss_nil)
      (pss_cons (ps_if (pt_cmpR op_eq (pe_ix (r := rIxT K) ix_tup (pv 1) pe_int (fun _ _ => rfl)) pe_str (nomark _)) (pss_one (ps_ret (pe_tup (pa_cons (pe_df DMx hr (le5 (by decide)) (pa_cons (pv 0) (pa_cons (pe_df DLT hr (le5 (by decide)) (pa_cons (pe_op op_cat (pe_lst (pa_cons pe_int pa_nil)) (pe_lc (own := [("fact", 8)]) (g := gName 8) (tt := tYes) (by rfl) scLPair.nd (pi_tup (pe_ix (r := rIxT K) ix_tup (pv 1) pe_int (fun _ _ => rfl))) (blkOk_by (N := ["p", "tree", "numbers", "many", "at", "child", "number", "inside", "fact"]) (sc := defScope sLPair) (by decide +kernel)) (fun _ _ _ _ _ => pg_name (i := 8) scLPair.nd rfl (Or.inl rfl)) (fun _ _ _ _ _ => pts_nil) (fun _ _ _ _ _ => (pe_df DN hr (le5 (by decide)) (pa_cons (pv 0) (pa_cons (pv 8) pa_nil)))))) pa_nil)) pa_nil))) (pa_cons (pe_callB call_len_seq (by rfl) M.len PySem.boot_len (pa_cons (pe_ix (r := rIxT K) ix_tup (pv 1) pe_int (fun _ _ => rfl)) pa_nil)) pa_nil))))) pss_nil)
      (pss_cons (ps_par (i := 2) (j := 3) (by rfl) scLPair.nd rfl rfl (by decide) rfl rfl (pa_cons (pe_lst (pa_cons pe_int pa_nil)) (pa_cons (pe_callB call_len_seq (by rfl) M.len PySem.boot_len (pa_cons (pe_ix (r := rIxT K) ix_tup (pv 1) pe_int (fun _ _ => rfl)) pa_nil)) pa_nil)) (by rfl))
      (pss_cons (ps_for PassesOwn.never rfl (pi_enumT (by rfl) M2.enumerate (pa_cons (pe_ix (r := rIxT K) ix_tup (pv 1) pe_int (fun _ _ => rfl)) pa_nil)) (pg_tup rfl (pgs_cons (pg_name (i := 4) scLPair.nd rfl (Or.inl rfl)) (pgs_cons (pg_name (i := 5) scLPair.nd rfl (Or.inl rfl)) pgs_nil))) (pss_cons (ps_asg (pe_df DS hr (Nat.le_refl _) (pa_cons (pv 0) (pa_cons (pv 5) pa_nil))) (pg_tup rfl (pgs_cons (pg_name (i := 6) scLPair.nd rfl (Or.inl rfl)) (pgs_cons (pg_name (i := 7) scLPair.nd rfl (Or.inl rfl)) pgs_nil))))
      (pss_cons (ps_par (i := 2) (j := 3) (by rfl) scLPair.nd rfl rfl (by decide) rfl rfl (pa_cons (pe_op op_cat (pv 2) (pe_lst (pa_cons (pv 6) (pa_cons (pv 7) pa_nil)))) (pa_cons (pe_op op_add (pv 3) (pv 7)) pa_nil)) (by rfl))
      (pss_one (ps_if (pt_cmpR op_lt (pv 4) (pe_callB call_len_seq (by rfl) M.len PySem.boot_len (pa_cons (pe_ix (r := rIxT K) ix_tup (pv 1) pe_int (fun _ _ => rfl)) pa_nil)) (nomark _)) (pss_one (ps_expr (pe_bm PySem.F.plainAttrs_list PySem.F.slot_list_append PySem.F.type_list_append mt_append (pv 2) (pa_cons (pe_df DN hr (le5 (by decide)) (pa_cons (pv 0) (pa_cons (pe_ix (r := rIxT K) ix_tup (pe_ix (r := rIxT K) ix_tup (pv 1) pe_int (fun _ _ => rfl)) (pv 4) (fun _ _ => rfl)) pa_nil))) pa_nil)))) pss_nil)))))
      (pss_one (ps_ret (pe_tup (pa_cons (pe_df DMx hr (le5 (by decide)) (pa_cons (pv 0) (pa_cons (pe_df DLT hr (le5 (by decide)) (pa_cons (pv 2) pa_nil)) pa_nil))) (pa_cons (pv 3) pa_nil))))))))), ?_⟩
    rcases show_cases p ds with ⟨et, es⟩ | ⟨m, ls, own, ⟨dm, hdm, edm⟩, et, hl, es, hls, ho, zo⟩
    · rw [es] at hv
      obtain ⟨a, xs, rfl, ha, hd⟩ := ofTup hv
      cases hd with
      | cons h1 h2 =>
        cases h2 with
        | cons h3 h4 =>
          cases h4
          cases h1
          obtain ⟨va, vx, rfl, hva, hvd⟩ := ofTup h3
          have lvx := dall_len hvd
          refine ⟨_, rfl, a, _, 0, _, rfl, rfl, ha.sq, atI_nat (j := 0) rfl, rfl, _, rfl, iteF ?_⟩
          refine ⟨_, rfl, a, _, 0, _, rfl, rfl, ha.sq, atI_nat (j := 0) rfl, rfl, _, rfl, iteT ?_⟩
          refine ⟨_, rfl, by rw [sizeLine_eq]; decide, fun l0 n0 => ?_⟩
          have s0 : Same H (upd H l0 (.lst [V.int 1])) := same_up n0
          have e0 : upd H l0 (.lst [V.int 1]) l0 = some (.lst [V.int 1]) := upd_same
          generalize upd H l0 (.lst [V.int 1]) = H0 at s0 e0 ⊢
          refine ⟨_, rfl, a, _, 1, _, rfl, rfl, (ha.same s0).sq, atI_nat (j := 1) rfl, va, rfl, ⟨_, (hva.same s0).sq⟩, fun D hD => ?_⟩
          refine lc_tup (xs := vx) (fun i H' => Same H0 H' ∧ H' D = some (.lst (((ds.map (nmF p)).take i).map V.int))) ⟨same_up hD, upd_same⟩ (fun i H' _ e => ((hva.same s0).same e.1).sq) (fun i x H' hx e => ?_) (fun H2 e => ?_)
          · obtain ⟨s1, hy⟩ := e
            obtain ⟨d, hd1, hd2⟩ := dall_at' hvd hx
            have hfd := hf d (List.mem_of_getElem? hd1)
            refine ⟨rfl, _, rfl, _, rfl, p, x, d, rfl, by omega, p2, (hd2.same s0).same s1, hfd.1, hfd.2, fun H2 s2 => ⟨_, s2 _ _ hy, ?_, same_updN (Same.trans s1 s2) hD, ?_⟩⟩
            · rw [List.length_map, List.length_take, List.length_map, sizeLine_eq]
              omega
            · rw [upd_same, take_snoc (xs := ds.map (nmF p)) (x := nmF p d) (by rw [List.getElem?_map, hd1]; rfl), List.map_append]
              rfl
          · obtain ⟨s1, hy⟩ := e
            rw [List.take_of_length_le (by rw [List.length_map]; omega)] at hy
            refine ⟨l0, D, _, _, rfl, rfl, s1 _ _ e0, hy, by simp [sizeLine_eq]; omega, fun l1 nl1 => ?_⟩
            have s3 := Same.trans (Same.trans s0 s1) (same_up (o := .lst ([V.int 1] ++ (ds.map (nmF p)).map V.int)) nl1)
            have e3 : upd H2 l1 (.lst ([V.int 1] ++ (ds.map (nmF p)).map V.int)) l1 = some (.lst ((1 :: ds.map (nmF p)).map V.int)) := upd_same
            generalize upd H2 l1 (.lst ([V.int 1] ++ (ds.map (nmF p)).map V.int)) = H3 at s3 e3 ⊢
            refine ⟨l1, _, rfl, SqL.of e3, by simp; omega, ?_, fun H4 s4 => ⟨p, _, rfl, by omega, p2, nText_sml _, _, rfl, a, _, 1, _, rfl, rfl, ((ha.same s3).same s4).sq, atI_nat (j := 1) rfl, va, _, rfl, .inr ((hva.same s3).same s4).sq, (by rw [sizeLine_eq]; exact (by decide : 2 ≤ 16777216)), fun T nT => ?_⟩⟩
            · intro z hz
              rcases List.mem_cons.mp hz with rfl | hz
              · decide
              · exact nums_small p1 p2 z hz
            · refine q T _ (Same.trans (Same.trans s3 s4) (same_up nT)) (.inl ?_)
              rw [upd_same, et, lvx]
              unfold trNum trMany trManys
              rfl
    · obtain ⟨n', rfl⟩ : ∃ n', n = n' + 1 := ⟨n - 1, by have := hrk dm hdm; omega⟩
      have tn : m ≤ n' := by
        have := hrk dm hdm
        omega
      rw [es] at hv
      obtain ⟨a, xs, rfl, ha, hd⟩ := ofTup hv
      cases hd with
      | cons h1 h2 =>
        cases h2 with
        | cons h3 h4 =>
          cases h4 with
          | cons h5 h6 =>
            cases h6
            cases h1
            obtain ⟨ca, cv, rfl, hca, hcd⟩ := ofTup h3
            obtain ⟨oa, ov, rfl, hoa, hod⟩ := ofTup h5
            have lcv := dall_len hcd
            rw [List.length_map] at lcv
            have lov := dall_len hod
            have hko : KidsOk p (ls.map (tree p)) := kids_ok p1 p2 fun l hl => by
              have := (hls l hl).2
              omega
            have hsm := nums_small (ds := own) p1 p2
            refine ⟨_, rfl, a, _, 0, _, rfl, rfl, ha.sq, atI_nat (j := 0) rfl, rfl, _, rfl, iteF ?_⟩
            refine ⟨_, rfl, a, _, 0, _, rfl, rfl, ha.sq, atI_nat (j := 0) rfl, rfl, _, rfl, iteF ?_⟩
            refine ⟨by rw [sizeLine_eq]; decide, fun L nL => ?_⟩
            have s1 : Same H (upd H L (.lst [V.int 2])) := same_up nL
            have e1 : upd H L (.lst [V.int 2]) L = some (.lst [V.int 2]) := upd_same
            generalize upd H L (.lst [V.int 2]) = H1 at s1 e1 ⊢
            refine ⟨_, rfl, a, _, 2, _, rfl, rfl, (ha.same s1).sq, atI_nat (j := 2) rfl, oa, ov, rfl, .inr (hoa.same s1).sq, _, _, rfl, ?_⟩
            refine ⟨_, rfl, a, _, 1, _, rfl, rfl, (ha.same s1).sq, atI_nat (j := 1) rfl, ca, cv, rfl, (hca.same s1).sq, ?_⟩
            refine for_enumT (xs := cv) (fun i σ H' => Same H H' ∧ ∃ (L' : Addr) (z1 z2 z3 z4 z5 : Option V), σ = [some (.int p), some (.ref a), some (.ref L'), some (.int ((own.length + trManys ((ls.map (tree p)).take i) : Nat) : Int)), z1, z2, z3, z4, z5] ∧ H' L' = some (.lst ((2 :: inter (trPairs p ((ls.map (tree p)).take i)) (own.map (nmF p))).map V.int)))
              ⟨s1, L, none, none, none, none, none, ?_, ?_⟩ (fun i σ H' z => (hca.same z.1).sq) (fun i x T σ H' hx z nT => ?_) (fun σ H' z => ?_)
            · rw [lov]
              simp [trManys]
              rfl
            · rw [e1]
              simp [trPairs, inter]
            · obtain ⟨s2, L', z1, z2, z3, z4, z5, rfl, hL⟩ := z
              obtain ⟨dd, hd1, hd2⟩ := dall_at' hcd hx
              rw [List.getElem?_map] at hd1
              obtain ⟨l, hl1, rfl⟩ := Option.map_eq_some_iff.mp hd1
              obtain ⟨hl2, hl3⟩ := hls l (List.mem_of_getElem? hl1)
              have il := (List.getElem?_eq_some_iff.mp hl1).1
              have sT : Same H' (upd H' T (.tup [V.int (i : Nat), x])) := same_up nT
              have s3 := Same.trans s2 sT
              have hL3 := sT _ _ hL
              refine ⟨T, _, rfl, .inl (.inl upd_same), rfl, .int (i : Nat), [x], rfl, x, [], rfl, rfl, ?_⟩
              generalize upd H' T (.tup [V.int (i : Nat), x]) = H3 at s3 hL3 ⊢
              refine ⟨_, rfl, _, rfl, p, x, l, rfl, p1, p2, hd2.same s3, fun e he => hf e (hl2 e he).1, by omega, fun e he => Nat.le_trans (hl2 e he).2 tn, fun T2 H4 s4 hT2 => ?_⟩
              refine ⟨T2, _, rfl, hT2.sq, rfl, .int (trNum p (tree p l)), [.int (trMany (tree p l) : Int)], rfl, .int (trMany (tree p l) : Int), [], rfl, rfl, ?_⟩
              have hL4 := s4 _ _ hL3
              have s34 := Same.trans s3 s4
              have st := inter_step p (ls.map (tree p)) (own.map (nmF p)) i (tree p l) (by rw [List.getElem?_map, hl1]; rfl)
              have zi := inter_len p ((ls.map (tree p)).take i) (own.map (nmF p))
              rw [List.length_take, List.length_map] at zi
              refine ⟨_, rfl, _, rfl, _, rfl, (by rw [sizeLine_eq]; exact (by decide : 2 ≤ 16777216)), fun l2 nl2 => ⟨L', l2, _, _, rfl, rfl, same_up nl2 _ _ hL4, upd_same, by simp [sizeLine_eq]; omega, fun L3 nL3 => ⟨_, rfl, _, rfl, _, _, rfl, rfl, _, _, rfl, ?_⟩⟩⟩
              have s5 := Same.trans s34 (Same.trans (same_up (o := .lst [V.int (trNum p (tree p l)), V.int (trMany (tree p l) : Int)]) nl2) (same_up (o := .lst ((2 :: inter (trPairs p ((ls.map (tree p)).take i)) (own.map (nmF p))).map V.int ++ [V.int (trNum p (tree p l)), V.int (trMany (tree p l) : Int)])) nL3))
              have n5 : H L3 = none := none_of_same (Same.trans s34 (same_up (o := .lst [V.int (trNum p (tree p l)), V.int (trMany (tree p l) : Int)]) nl2)) nL3
              have e5 : upd (upd H4 l2 (.lst [V.int (trNum p (tree p l)), V.int (trMany (tree p l) : Int)])) L3 (.lst ((2 :: inter (trPairs p ((ls.map (tree p)).take i)) (own.map (nmF p))).map V.int ++ [V.int (trNum p (tree p l)), V.int (trMany (tree p l) : Int)])) L3 = some (.lst ((2 :: (inter (trPairs p ((ls.map (tree p)).take i)) (own.map (nmF p)) ++ [trNum p (tree p l), (trMany (tree p l) : Int)])).map V.int)) := by
                rw [upd_same]
                simp
              generalize upd (upd H4 l2 (.lst [V.int (trNum p (tree p l)), V.int (trMany (tree p l) : Int)])) L3 (.lst ((2 :: inter (trPairs p ((ls.map (tree p)).take i)) (own.map (nmF p))).map V.int ++ [V.int (trNum p (tree p l)), V.int (trMany (tree p l) : Int)])) = H5 at s5 e5 ⊢
              have em : ((own.length + trManys ((ls.map (tree p)).take i) : Nat) : Int) + (trMany (tree p l) : Int) = ((own.length + trManys ((ls.map (tree p)).take (i + 1)) : Nat) : Int) := by
                rw [trManys_take p hl1]
                omega
              refine ⟨_, rfl, _, rfl, a, _, 2, _, rfl, rfl, (ha.same s5).sq, atI_nat (j := 2) rfl, oa, ov, rfl, .inr (hoa.same s5).sq, _, _, rfl, rfl, _, rfl, tst (fun c => ?_) (fun c => ?_)⟩
              · have lt : i < own.length := by
                  have := of_decide_eq_true c
                  omega
                obtain ⟨wv, hwv⟩ : ∃ wv, ov[i]? = some wv := ⟨_, List.getElem?_eq_getElem (by omega)⟩
                obtain ⟨d, hdo1, hdo2⟩ := dall_at' hod hwv
                have hfd := hf d (ho d (List.mem_of_getElem? hdo1))
                refine ⟨.ref L3, rfl, .inl ⟨rfl, _, SqL.of e5⟩, _, rfl, _, rfl, a, _, 2, _, rfl, rfl, (ha.same s5).sq, atI_nat (j := 2) rfl, _, rfl, oa, ov, (i : Int), wv, rfl, rfl, (hoa.same s5).sq, atI_nat hwv, p, wv, d, rfl, by omega, p2, hdo2.same s5, hfd.1, hfd.2, fun H6 s6 => ⟨L3, _, _, rfl, rfl, s6 _ _ e5, ?_, ?_⟩⟩
                · rw [List.length_map, List.length_cons, List.length_append, sizeLine_eq]
                  simp
                  omega
                · refine ⟨same_updN (Same.trans s5 s6) n5, L3, some (.int (i : Nat)), some x, some (.int (trNum p (tree p l))), some (.int (trMany (tree p l) : Int)), z5, ?_, ?_⟩
                  · rw [← em]
                    rfl
                  · rw [upd_same, st, List.drop_eq_getElem_cons (by rw [List.length_map]; exact lt), List.take_succ_cons, List.take_zero]
                    have : (own.map (nmF p))[i]'(by rw [List.length_map]; exact lt) = nmF p d := by
                      rw [List.getElem_map]
                      congr 1
                      rw [List.getElem?_eq_getElem lt] at hdo1
                      exact Option.some.inj hdo1
                    rw [this]
                    simp
                    rfl
              · have ge : own.length ≤ i := by
                  have := of_decide_eq_false c
                  omega
                refine ⟨s5, L3, some (.int (i : Nat)), some x, some (.int (trNum p (tree p l))), some (.int (trMany (tree p l) : Int)), z5, ?_, ?_⟩
                · rw [← em]
                  rfl
                · rw [e5, st, List.drop_of_length_le (by rw [List.length_map]; exact ge)]
                  simp
            · obtain ⟨s2, L', z1, z2, z3, z4, z5, rfl, hL⟩ := z
              rw [List.take_of_length_le (by rw [List.length_map]; omega)] at hL ⊢
              have zi := inter_len p (ls.map (tree p)) (own.map (nmF p))
              rw [List.length_map] at zi
              refine ⟨_, rfl, _, rfl, L', _, rfl, SqL.of hL, by simp; omega, ?_, fun H4 s4 => ⟨p, _, rfl, by omega, p2, nText_sml _, _, rfl, (by rw [sizeLine_eq]; exact (by decide : 2 ≤ 16777216)), fun T nT => ?_⟩⟩
              · intro z hz
                rcases List.mem_cons.mp hz with rfl | hz
                · decide
                · exact inter_small p _ _ hko hsm z hz
              · refine q T _ (Same.trans (Same.trans s2 s4) (same_up nT)) (.inl ?_)
                have hne : (ls.map (tree p)).isEmpty = false := by
                  cases ls with
                  | nil => cases hl
                  | cons _ _ => rfl
                rw [upd_same, et]
                unfold trNum trMany
                rw [hne, if_neg Bool.false_ne_true]
end
end Sm
/-! Facts in their order. -/
namespace Sm
open PySem PySem.Spec PyProof.Rows L2 Vd
theorem nodup_len {α : Type} : ∀ (l D : List α), l.Nodup → (∀ x ∈ l, x ∈ D) → l.length ≤ D.length := by
  classical
  intro l
  induction l with
  | nil => exact fun D _ _ => Nat.zero_le _
  | cons x r ih =>
    intro D nd h
    obtain ⟨n1, n2⟩ := List.nodup_cons.mp nd
    have hx := h x List.mem_cons_self
    have := ih (D.erase x) n2 fun y hy => (List.mem_erase_of_ne (show y ≠ x from fun e => n1 (by rw [← e]; exact hy))).mpr (h y (List.mem_cons_of_mem _ hy))
    rw [List.length_erase_of_mem hx] at this
    have := List.length_pos_of_mem hx
    rw [List.length_cons]
    omega
/-- facts, each once, in their order -/
def GoodL (rs : List PyData) : Prop := rs.length ≤ 900 ∧ FactL rs ∧ rs.Pairwise fun a b => ltD (fkD a) (fkD b) = true
theorem GoodL.sub {rs qs : List PyData} (h : GoodL rs) (s : qs.Sublist rs) : GoodL qs := ⟨Nat.le_trans s.length_le h.1, fun d hd => h.2.1 d (s.subset hd), h.2.2.sublist s⟩
theorem GoodL.facts {rs : List PyData} (h : GoodL rs) : FactsK rs := ⟨by have := h.1; omega, h.2.1, ris_of (List.pairwise_map.mpr h.2.2)⟩
theorem good_sort {ds rs : List PyData} (hR : RightF ds) (hz : ds.length ≤ 900) (h : SortOf ds rs) : GoodL rs ∧ rs.length ≤ ds.length := by
  obtain ⟨hm, ks, nd, h1, h2, e⟩ := h
  have hf : FactL rs := fun d hd => hR.2 d (hm d hd)
  have hl : rs.length ≤ ds.length := by
    have l1 : rs.length = ks.length := by
      have := congrArg List.length e
      rw [List.length_map, List.length_mergeSort] at this
      exact this
    rw [l1]
    have := nodup_len ks (ds.map lkD) nd fun k hk => by
      obtain ⟨d, hd, rfl⟩ := h2 k hk
      exact List.mem_map.mpr ⟨d, hd, rfl⟩
    rwa [List.length_map] at this
  refine ⟨⟨by omega, hf, ?_⟩, hl⟩
  have pk : (ks.mergeSort (PySem.W.dataLe false id)).Pairwise fun a b => PySem.W.dataLe false id a b = true := by
    have T := PySem.W.sortLe_total (listOrd itemOrd) false (fun b : PyData => PySem.W.keyToks (id b))
    exact List.pairwise_mergeSort (le := PySem.W.dataLe false id) (fun a b c x y => T.trans a b c x y) (fun a b => (Bool.or_eq_true _ _).mpr (T.total a b)) ks
  have nd2 : (ks.mergeSort (PySem.W.dataLe false id)).Nodup := (List.mergeSort_perm ks _).nodup_iff.mpr nd
  rw [← e] at pk nd2
  have both := (List.pairwise_map.mp pk).and (List.pairwise_map.mp nd2)
  refine both.imp_of_mem fun {a b} ha hb ⟨x, y⟩ => ?_
  have fa := hf a ha
  have fb := hf b hb
  rw [← fk_same fa.1 fa.2 fb.1 fb.2]
  have x2 : PySem.W.dataLt (lkD b) (lkD a) = false := by
    rw [PySem.W.dataLe_eq] at x
    simpa using x
  exact lt_of (lk_key fa.1 fa.2).1 (lk_key fb.1 fb.2).1 (lk_alike fa.1 fa.2 fb.1 fb.2) x2 y
end Sm
/-! _law_whole_stretches, _law_facts, _law_high_facts. -/
namespace Sm
open PySem PySem.Spec PyProof.Rows L2 Vd RZ
section
variable {P : Program} {w : World} {K : PySem.W.Frag} {mg : Str → Option Value} {base : Heap}
theorem scLFs : FnScope ["hand", "most", "turn"] ["hand", "most"] (defScope sLFs) := ⟨rfl, rfl, rfl, by decide +kernel, rfl, by decide +kernel, by decide +kernel⟩
/-! ### drawn facts -/
def spLFs (K : PySem.W.Frag) : Sp := fun vs H Q _ => ∃ (a c : Addr) (m : Int), vs = [.ref a, .int m] ∧ HandC H a c ∧ 0 ≤ m ∧ m ≤ 100 ∧ ∀ (v : V) (rs : List PyData) (H' : Hp), HandC H' a c → Keep a H H' → Dd K H' v (.tuple rs) → GoodL rs → rs.length ≤ 100 → Q v H'
theorem live_not {a : Addr} {H : Hp} (l : Live a H) : ∃ o, H a = some o ∧ ¬ StayO 0 o := by
  obtain ⟨xs, h⟩ := l
  exact ⟨_, h, fun e => e⟩
theorem ok_lfs {f : Addr} {fd : FuncData} (F : FnP K "_law_facts" sLFs f fd) (M : Nm mg) (DD : DDraw P w K mg base) (DFa : DY P w K mg base "_law_fact" 4 RF) (DSo : Df P w K mg base "_law_sorted" 2 ["facts"] (spSortL K)) : FnOk P w K mg base CX0 5 f fd ["hand", "most"] (spLFs K) := by
  refine F.ok scLFs (fun vs H Q E h => ?_) (fun cdv A outer s H vs Q E hr h => ?_)
  · obtain ⟨a, c, m, rfl, _⟩ := h
    rfl
  obtain ⟨a, c, m, rfl, hh, m0, m1, q⟩ := h
  refine ⟨_, PSs.nox (pss_one (ps_ret (pe_df DSo hr (by decide) (pa_cons (pe_lc (own := [("turn", 2)]) (g := gName 2) (tt := tYes) (by rfl) scLFs.nd (pi_range1 rfl M.range (pa_cons (pe_df DD hr (by decide) (pa_cons (pv 0) (pa_cons (pe_op op_add (pv 1) pe_int) pa_nil))) pa_nil)) (blkOk_by (N := ["hand", "most", "turn"]) (sc := defScope sLFs) (by decide +kernel)) (fun _ _ _ _ _ => pg_name (i := 2) scLFs.nd rfl (Or.inl rfl)) (fun _ _ _ _ _ => pts_nil) (fun _ _ _ _ _ => (pe_df DFa hr (by decide) (pa_cons (pv 0) pa_nil)))) pa_nil)))), ?_⟩
  refine ⟨_, rfl, _, rfl, _, _, rfl, rfl, a, c, m + 1, rfl, hh, by omega, by omega, fun d H1 d0 d1 hh1 k1 => ?_⟩
  refine ⟨_, rfl, by omega, by omega, fun D hD => ?_⟩
  refine lc_range (lo := 0) (n := d.toNat) (fun i H' => HandC H' a c ∧ Keep a H1 H' ∧ ∃ (ys : List V) (ds : List PyData), H' D = some (.lst ys) ∧ DdAll K H' ys ds ∧ ds.length = i ∧ ∀ e ∈ ds, RF e) ⟨hh1.set (hh1.live.ne hD) (hh1.cne hD), Keep.refl.new hD, [], [], upd_same, .nil, rfl, fun e he => (nomatch he)⟩ (fun i H' hi e => ?_) (fun H2 e => ?_)
  · obtain ⟨hh2, k2, ys, ds, hy, hd, hl, hr2⟩ := e
    refine ⟨rfl, _, rfl, a, c, rfl, hh2, fun v e H3 re hh3 k3 hv => ?_⟩
    have Da : D ≠ a := hh1.live.ne hD
    have hy3 := k3 _ _ Da hy
    obtain ⟨o, ho, no⟩ := live_not hh2.live
    have kt : Kt 0 H' H3 := kt_keep ho no k3
    have kD : Kt 0 H3 (upd H3 D (.lst (ys ++ [v]))) := kt_upd hy3 (fun e => e)
    have kds : keyTs ds = true := keyTs_all.mpr fun e he => (fact_key (hr2 e he).2 (hr2 e he).1).2
    have ke : keyT e = true := (fact_key re.2 re.1).2
    have hv3 : Dd K H3 v e := Dd.same vis_same hv
    refine ⟨ys, hy3, ?_, hh3.set Da (hh1.cne hD), Keep.new (k2.trans k3) hD, ys ++ [v], ds ++ [e], upd_same, dds_kt kD (keyTs_app kds ke) (ddAll_snoc (dds_kt kt kds hd) hv3), by rw [List.length_append, hl]; rfl, fun z hz => ?_⟩
    · have := ddAll_len hd
      rw [sizeLine_eq]
      omega
    · rcases List.mem_append.mp hz with hz | hz
      · exact hr2 z hz
      · rw [List.mem_singleton.mp hz]
        exact re
  obtain ⟨hh2, k2, ys, ds, hy, hd, hl, hr2⟩ := e
  refine ⟨D, ys, ds, rfl, SqL.of hy, hd, ⟨by omega, fun e he => ⟨(hr2 e he).2, (hr2 e he).1⟩⟩, fun v' H3 rs s3 hv hs => ?_⟩
  obtain ⟨g1, g2⟩ := good_sort ⟨by omega, fun e he => ⟨(hr2 e he).2, (hr2 e he).1⟩⟩ (by omega) hs
  exact q v' rs H3 (hh2.same s3) (k1.trans (k2.trans (keepS s3))) hv g1 (by omega)
end
end Sm
/-! What the law itself leans on. -/
namespace Sm
open PySem PySem.Spec PyProof.Rows L2 Vd RZ
section
variable {K : PySem.W.Frag}
theorem cat_any {H : Hp} {Q : VK} {a b : Addr} {xs ys : List V} (ha : TupN H a xs) (hb : TupN H b ys) (z : xs.length + ys.length ≤ sizeLine) (q : ∀ T H', Same H H' → TupN H' T (xs ++ ys) → Q (.ref T) H') : rCatA K (.ref a) (.ref b) H Q :=
  ⟨a, b, xs, ys, rfl, rfl, ha.sq, hb.sq, z, fun e => q b H (Same.refl H) (by rw [e]; exact hb), fun _ e => q a H (Same.refl H) (by rw [e, List.append_nil]; exact ha), fun _ _ T nT => q T _ (same_up nT) (.inl upd_same)⟩
theorem drop_any {H : Hp} {Q : VK} {a : Addr} {xs : List V} {n : Nat} (ha : TupN H a xs) (q : ∀ T H', Same H H' → TupN H' T (xs.drop n) → Q (.ref T) H') : rSlA K (.ref a) (some (n : Int)) none H Q := by
  refine ⟨a, xs, rfl, ha.sq, fun w => ?_, fun _ T nT => ?_⟩
  · rw [HT.sIx_nat] at w
    refine q a H (Same.refl H) ?_
    have : xs.drop n = xs := by
      rcases Nat.eq_zero_or_pos n with e | e
      · rw [e, List.drop_zero]
      · have : xs.length = 0 := by omega
        rw [List.length_eq_zero_iff.mp this, List.drop_nil]
    rw [this]
    exact ha
  · refine q T _ (same_up nT) (.inl ?_)
    rw [upd_same]
    congr 2
    unfold cutV
    rw [HT.sIx_nat, HT.sIx_none]
    rcases Nat.lt_or_ge n xs.length with h | h
    · rw [Nat.min_eq_left (by omega), List.take_of_length_le (by rw [List.length_drop]; exact Nat.le_refl _)]
    · rw [Nat.min_eq_right h, List.drop_of_length_le (Nat.le_refl _), List.drop_of_length_le h, List.take_nil]
theorem isK_w {d : PyData} (h : WorthK d) : ∀ n, isK n d = true := fun n => by
  rcases h with ⟨i, rfl⟩ | ⟨x, rfl⟩ <;> cases n <;> rfl
theorem isK_tup {ds : List PyData} {n : Nat} (z : ds.length ≤ 4000) (h : ∀ d ∈ ds, isK n d = true) : isK (n + 1) (.tuple ds) = true := by
  show (decide (ds.length ≤ 4000) && ds.all (isK n)) = true
  rw [decide_eq_true z, List.all_eq_true.mpr h]
  rfl
theorem isK_lst {ds : List PyData} {n : Nat} (z : ds.length ≤ 4000) (h : ∀ d ∈ ds, isK n d = true) : isK (n + 1) (.list ds) = true := by
  show (decide (ds.length ≤ 4000) && ds.all (isK n)) = true
  rw [decide_eq_true z, List.all_eq_true.mpr h]
  rfl
theorem isK_str (x : Str) : ∀ n, isK n (.str x) = true := fun n => by cases n <;> rfl
theorem isK_fact {d : PyData} (h : okD d = true ∧ factD d = true) (n : Nat) : isK (n + 2) d = true := by
  obtain ⟨m, ws, rfl, _, z, hw⟩ := fact_row h.1 h.2
  refine isK_tup (by simp) fun e he => ?_
  simp only [List.mem_cons, List.not_mem_nil, or_false] at he
  rcases he with rfl | rfl
  · exact isK_str _ _
  · exact isK_tup (by omega) fun e he => isK_w (hw e he) n
theorem isK_facts {ds : List PyData} (z : ds.length ≤ 4000) (h : FactL ds) (n : Nat) : isK (n + 3) (.tuple ds) = true := isK_tup z fun d hd => isK_fact (h d hd) n
theorem isK_tree (p : Int) : ∀ (k n : Nat) (ds : List PyData), ds.length ≤ 3000 → FactL ds → (∀ e ∈ ds, rkP p e ≤ k) → isK (2 * k + n + 4) (shD (tree p ds)) = true
  | k, n, ds, z, hf, hrk => by
    rcases show_cases p ds with ⟨et, es⟩ | ⟨m, ls, own, ⟨dm, hdm, edm⟩, et, hl, es, hls, ho, zo⟩
    · rw [es]
      refine isK_tup (n := (2 * k + n) + 3) (by simp) fun e he => ?_
      simp only [List.mem_cons, List.not_mem_nil, or_false] at he
      rcases he with rfl | rfl
      · exact isK_str _ _
      · exact isK_facts (by omega) hf _
    · obtain ⟨k', rfl⟩ : ∃ k', k = k' + 1 := ⟨k - 1, by have := hrk dm hdm; omega⟩
      have tn : m ≤ k' := by
        have := hrk dm hdm
        omega
      rw [es, show 2 * (k' + 1) + n + 4 = (2 * k' + n + 4 + 1) + 1 by omega]
      refine isK_tup (by simp) fun e he => ?_
      simp only [List.mem_cons, List.not_mem_nil, or_false] at he
      rcases he with rfl | rfl | rfl
      · exact isK_str _ _
      · refine isK_tup (by rw [List.length_map]; omega) fun e he => ?_
        obtain ⟨l, hl, rfl⟩ := List.mem_map.mp he
        obtain ⟨h1, h2⟩ := hls l hl
        exact isK_tree p k' n l (by omega) (fun d hd => hf d (h1 d hd).1) fun d hd => Nat.le_trans (h1 d hd).2 tn
      · rw [show 2 * k' + n + 4 + 1 = (2 * k' + n + 2) + 3 by omega]
        exact isK_facts (by omega) (fun d hd => hf d (ho d hd)) _
theorem eqDs_symm {ds es : List PyData} (h : keyTs ds = true) (k : keyTs es = true) : eqDs ds es = eqDs es ds := by
  rw [Bool.eq_iff_iff]
  constructor
  · intro e
    rw [eqDs_of e]
    exact eqDs_refl k
  · intro e
    rw [eqDs_of e]
    exact eqDs_refl h
end
end Sm
/-! The law's own looks at stretches: _law_side, _law_is_closed. -/
namespace Sm
open PySem PySem.Spec PyProof.Rows L2 Vd RZ
theorem lr_can {a b : List PyData} (ha : RowF a) (hb : RowF b) : canD (lrD (.tuple a)) (lrD (.tuple b)) = true := by
  unfold lrD partsD canD
  exact lws_can ha.2 hb.2
theorem lr_kd {a : List PyData} (ha : RowF a) : keyT (lrD (.tuple a)) = true ∧ dpD (lrD (.tuple a)) ≤ 60 := by
  have := lws_dp ha.2
  refine ⟨?_, ?_⟩
  · unfold lrD partsD keyT
    exact keyTs_of fun e he => by
      obtain ⟨x, hx, rfl⟩ := List.mem_map.mp he
      exact (lw_key (ha.2 x hx)).1
  · unfold lrD partsD dpD
    simp only
    omega
theorem lr_lt {a b : List PyData} (ha : RowF a) (hb : RowF b) : ltD (lrD (.tuple a)) (lrD (.tuple b)) = ltD (rkD (.tuple a)) (rkD (.tuple b)) := by
  unfold lrD rkD partsD ltD
  exact (rows_same ha.2 hb.2).2
theorem RowF.w {a : List PyData} (h : RowF a) : RowW (.tuple a) := ⟨a, rfl, h.1, h.2⟩
theorem yv_cut2 {K : PySem.W.Frag} {σ : L2.St} {H : Hp} {ta : TE} {j : Nat} {y : V} {ws l : List PyData} (ha : YV K ta σ H (.tuple ws)) (hy : σ[j]? = some (some y)) (he : Dd K H y (.tuple l)) :
    YV K (tSl (rSlA K) ta tNoPart (tPart (tCB (fun xs H Q => ∃ p ys, xs = [.ref p] ∧ (SqL K H p ys ∨ SqT K H p ys) ∧ Q (.int ys.length) H) (tCons (tVar j) tNil)))) σ H (.tuple (ws.take l.length)) := fun H1 Q s q => ha H1 _ s fun v H2 s2 hd => by
  obtain ⟨a, xs, rfl, h1, h2⟩ := ofTup hd
  obtain ⟨b, ys, rfl, g1, g2⟩ := ofTup (he.same (s.trans s2))
  refine ⟨_, hy, b, ys, rfl, .inr g1.sq, _, rfl, ?_⟩
  rw [dall_len g2]
  exact take_any h1 fun T H' s' hT => q _ _ (s2.trans s') (.tup hT (dall_take _ (DdAll.same s' h2)))
/-- the law's key of a row cut to a bound's length, and of the bound -/
theorem lk_both {K : PySem.W.Frag} {σ : L2.St} {H : Hp} {ta : TE} {j : Nat} {y : V} {ws l : List PyData} (ha : YV K ta σ H (.tuple ws)) (hy : σ[j]? = some (some y)) (he : Dd K H y (.tuple l)) (hw : RowF ws) (hl : RowF l) {H1 : Hp} {Q : V → V → Hp → Prop} (s : Same H H1)
    (q : ∀ v u H2, Same H1 H2 → Dd K H2 v (lrD (.tuple (ws.take l.length))) → Dd K H2 u (lrD (.tuple l)) → Q v u H2) :
    tCall (spK K RowW lrD) [] E0 (tCons (tSl (rSlA K) ta tNoPart (tPart (tCB (fun xs H Q => ∃ p ys, xs = [.ref p] ∧ (SqL K H p ys ∨ SqT K H p ys) ∧ Q (.int ys.length) H) (tCons (tVar j) tNil)))) tNil) σ H1 fun v H2 => tCall (spK K RowW lrD) [] E0 (tCons (tVar j) tNil) σ H2 fun u H3 => Q v u H3 := by
  refine yv_df (yv_cut2 ha hy he) (hw.cut _).w H1 _ s fun v1 H2 s2 d1 => ?_
  exact yv_df (yv_var (m := j) hy (he.same (s.trans s2))) hl.w H2 _ (Same.refl H2) fun v2 H3 s3 d2 => q v1 v2 H3 (s2.trans s3) (d1.same s3) d2
theorem t_low {K : PySem.W.Frag} {σ : L2.St} {H : Hp} {ta : TE} {j : Nat} {y : V} {ws : List PyData} {o : Option (List PyData)} (ha : YV K ta σ H (.tuple ws)) (hy : σ[j]? = some (some y)) (he : Dd K H y (bdD o)) (hw : RowF ws) (ho : ∀ l, o = some l → RowB l) {H1 : Hp} (s : Same H H1) {Q : Bool → Hp → Prop}
    (q : ∀ H2, Same H1 H2 → Q (loB o ws) H2) :
    tAnd (tTest (tOp (fun x y H Q => y = V.non ∧ Q (V.bl !decide (x = V.non)) H) (tVar j) (tC V.non))) (tTest (tOp (rLtK K) (tCall (spK K RowW lrD) [] E0 (tCons (tSl (rSlA K) ta tNoPart (tPart (tCB (fun xs H Q => ∃ p ys, xs = [.ref p] ∧ (SqL K H p ys ∨ SqT K H p ys) ∧ Q (.int ys.length) H) (tCons (tVar j) tNil)))) tNil)) (tCall (spK K RowW lrD) [] E0 (tCons (tVar j) tNil)))) σ H1 Q := by
  refine ⟨_, hy, rfl, _, rfl, ?_⟩
  rw [bd_non he]
  cases o with
  | none => exact q _ (Same.refl H1)
  | some l =>
    have hl := (ho l rfl).f
    refine lk_both ha hy (show Dd K H y (.tuple l) from he) hw hl s fun v u H2 s2 d1 d2 => ?_
    refine ⟨_, _, d1, d2, (lr_kd (hw.cut _)).1, (lr_kd hl).1, lr_can (hw.cut _) hl, (lr_kd (hw.cut _)).2, (lr_kd hl).2, _, rfl, ?_⟩
    rw [lr_lt (hw.cut _) hl]
    exact q H2 s2
theorem t_high {K : PySem.W.Frag} {σ : L2.St} {H : Hp} {ta : TE} {j : Nat} {y : V} {ws : List PyData} {o : Option (List PyData)} (ha : YV K ta σ H (.tuple ws)) (hy : σ[j]? = some (some y)) (he : Dd K H y (bdD o)) (hw : RowF ws) (ho : ∀ l, o = some l → RowB l) {H1 : Hp} (s : Same H H1) {Q : Bool → Hp → Prop}
    (q : ∀ H2, Same H1 H2 → Q (hiB o ws) H2) :
    tAnd (tTest (tOp (fun x y H Q => y = V.non ∧ Q (V.bl !decide (x = V.non)) H) (tVar j) (tC V.non))) (tTest (tOp (rGtK K) (tCall (spK K RowW lrD) [] E0 (tCons (tSl (rSlA K) ta tNoPart (tPart (tCB (fun xs H Q => ∃ p ys, xs = [.ref p] ∧ (SqL K H p ys ∨ SqT K H p ys) ∧ Q (.int ys.length) H) (tCons (tVar j) tNil)))) tNil)) (tCall (spK K RowW lrD) [] E0 (tCons (tVar j) tNil)))) σ H1 Q := by
  refine ⟨_, hy, rfl, _, rfl, ?_⟩
  rw [bd_non he]
  cases o with
  | none => exact q _ (Same.refl H1)
  | some l =>
    have hl := (ho l rfl).f
    refine lk_both ha hy (show Dd K H y (.tuple l) from he) hw hl s fun v u H2 s2 d1 d2 => ?_
    refine ⟨_, _, d1, d2, (lr_kd (hw.cut _)).1, (lr_kd hl).1, lr_can (hw.cut _) hl, (lr_kd (hw.cut _)).2, (lr_kd hl).2, _, rfl, ?_⟩
    rw [lr_lt hl (hw.cut _)]
    exact q H2 s2
section
variable {P : Program} {w : World} {K : PySem.W.Frag} {mg : Str → Option Value} {base : Heap}
theorem scLSide : FnScope ["fact", "stretch", "name", "low", "high"] ["fact", "stretch"] (defScope sLSide) := ⟨rfl, rfl, rfl, by decide +kernel, rfl, by decide +kernel, by decide +kernel⟩
theorem scLClosed : FnScope ["place", "stretches", "ahead", "behind", "stretch", "is_below_v", "is_above_v"] ["place", "stretches"] (defScope sLClosed) := ⟨rfl, rfl, rfl, by decide +kernel, rfl, by decide +kernel, by decide +kernel⟩
def spSide (K : PySem.W.Frag) : Sp := fun vs H Q _ => ∃ (x v : V) (t : Stt) (f : PyData), vs = [x, v] ∧ Dd K H x f ∧ (okD f = true ∧ factD f = true) ∧ Dd K H v t.d ∧ t.Ok ∧ ∀ H', Same H H' → Q (.int (sideF t f)) H'
theorem ok_lside {f : Addr} {fd : FuncData} (F : FnP K "_law_side" sLSide f fd) (M : Nm mg) (DLK : DK P w K mg base "_law_key" 1 "row" RowW lrD) : FnOk P w K mg base CX0 2 f fd ["fact", "stretch"] (spSide K) := by
  refine F.ok scLSide (fun vs H Q E h => ?_) (fun cdv A outer s H vs Q E hr h => ?_)
  · obtain ⟨x, v, t, f, rfl, _⟩ := h
    rfl
  obtain ⟨x, v, t, f, rfl, hx, hf, hd, ht, q⟩ := h
  obtain ⟨m, ws, rfl, hw⟩ := fact_rf hf
  have q : ∀ H', Same H H' → Q (.int (side t m ws)) H' := q
  refine ⟨_, PSs.nox (pss_cons (ps_asg (pv 1) (pg_tup rfl (pgs_cons (pg_name (i := 2) scLSide.nd rfl (Or.inl rfl)) (pgs_cons (pg_name (i := 3) scLSide.nd rfl (Or.inl rfl)) (pgs_cons (pg_name (i := 4) scLSide.nd rfl (Or.inl rfl)) pgs_nil)))))
      (pss_cons (ps_if (pt_cmpR op_ne (pe_ix (r := rIxT K) ix_tup (pv 0) pe_int (fun _ _ => rfl)) (pv 2) (nomark _)) (pss_one (ps_ret (pe_ifExp (pt_cmpR (r := rLtK K) (op_ltK (hu64 hr)) (pe_ix (r := rIxT K) ix_tup (pv 0) pe_int (fun _ _ => rfl)) (pv 2) (nomark _)) (pe_un un_neg pe_int) pe_int))) pss_nil)
      (pss_cons (ps_if (PW.pt (pw_and (pt_cmpR op_notN (pv 3) pe_non (nomark _)) (pw_and1 (pt_cmpR (r := rLtK K) (op_ltK (hu64 hr)) (pe_df DLK hr (by decide) (pa_cons (pe_slice (r := rSlA K) sl_tupA (pe_ix (r := rIxT K) ix_tup (pv 0) pe_int (fun _ _ => rfl)) po_none (po_some (pe_callB call_len_seq (by rfl) M.len PySem.boot_len (pa_cons (pv 3) pa_nil)))) pa_nil)) (pe_df DLK hr (by decide) (pa_cons (pv 3) pa_nil)) (nomark _))))) (pss_one (ps_ret (pe_un un_neg pe_int))) pss_nil)
      (pss_one (ps_ret (pe_ifExp (PW.pt (pw_and (pt_cmpR op_notN (pv 4) pe_non (nomark _)) (pw_and1 (pt_cmpR (r := rGtK K) (op_gtK (hu64 hr)) (pe_df DLK hr (by decide) (pa_cons (pe_slice (r := rSlA K) sl_tupA (pe_ix (r := rIxT K) ix_tup (pv 0) pe_int (fun _ _ => rfl)) po_none (po_some (pe_callB call_len_seq (by rfl) M.len PySem.boot_len (pa_cons (pv 4) pa_nil)))) pa_nil)) (pe_df DLK hr (by decide) (pa_cons (pv 4) pa_nil)) (nomark _))))) pe_int pe_int)))))), ?_⟩
  obtain ⟨p, xs, rfl, h0, h2⟩ := ofTup (show Dd K H v (.tuple [.str t.n, bdD t.lo, bdD t.hi]) from hd)
  obtain ⟨n0, u1, u2, rfl, e0, e1, e2⟩ : ∃ n0 u1 u2, xs = [n0, u1, u2] ∧ Dd K H n0 (.str t.n) ∧ Dd K H u1 (bdD t.lo) ∧ Dd K H u2 (bdD t.hi) := by
    cases h2 with
    | cons a1 h2 => cases h2 with
      | cons a2 h2 => cases h2 with
        | cons a3 h2 =>
          cases h2
          exact ⟨_, _, _, rfl, a1, a2, a3⟩
  cases dd_str e0
  obtain ⟨b, u, rfl, sb, hu⟩ := fa_ix hx
  refine ⟨_, rfl, p, _, rfl, h0.sq, rfl, _, _, rfl, _, _, rfl, _, _, rfl, rfl, ?_⟩
  refine ⟨_, rfl, b, _, 0, .str m, rfl, rfl, sb, rfl, _, rfl, rfl, ?_⟩
  rw [str_eq]
  refine ⟨_, rfl, tst (fun e => ?_) fun e => ?_⟩
  · have ne : ¬ m = t.n := by simpa using e
    rw [side_ne ne] at q
    have el : ltD (.str m) (.str t.n) = ltS m t.n := by
      unfold ltD
      rfl
    refine ⟨_, rfl, b, _, 0, .str m, rfl, rfl, sb, rfl, _, rfl, .str m, .str t.n, .str m, .str t.n, (by unfold keyT; rfl), (by unfold keyT; rfl), (by unfold canD; rfl), (by unfold dpD; omega), (by unfold dpD; omega), _, rfl, ?_⟩
    rw [el]
    refine tst (fun e2 => ?_) fun e2 => ?_
    · rw [if_pos e2] at q
      exact ⟨1, rfl, q _ (Same.refl H)⟩
    · rw [if_neg (by rw [e2]; exact Bool.false_ne_true)] at q
      exact q _ (Same.refl H)
  · have eq : m = t.n := by simpa using e
    unfold side at q
    rw [if_pos eq] at q
    have row : YV K (tOp (rIxT K) (tVar 0) (tC (.int 1))) [some (.ref b), some (.ref p), some (.str t.n), some u1, some u2] H (.tuple ws) := yv_ix (m := 1) (yv_var (m := 0) rfl hx) rfl
    refine t_low row (j := 3) rfl e1 hw ht.lo (Same.refl H) fun H1 s1 => tst (fun c => ?_) fun c => ?_
    · rw [if_pos c] at q
      exact ⟨1, rfl, q _ s1⟩
    · rw [if_neg (by rw [c]; exact Bool.false_ne_true)] at q
      refine t_high row (j := 4) rfl e2 hw ht.hi s1 fun H2 s2 => tst (fun c => ?_) fun c => ?_
      · rw [if_pos c] at q
        exact q _ (s1.trans s2)
      · rw [if_neg (by rw [c]; exact Bool.false_ne_true)] at q
        exact q _ (s1.trans s2)
/-- the two facts of a place -/
def PlaceAt (K : PySem.W.Frag) (H : Hp) (v : V) (oa ob : Option PyData) : Prop := ∃ (T : Addr) (x y : V), v = .ref T ∧ TupN H T [x, y] ∧ Dd K H x (odD oa) ∧ Dd K H y (odD ob) ∧ OF oa ∧ OF ob
theorem PlaceAt.same {H H' : Hp} {v : V} {oa ob : Option PyData} (h : PlaceAt K H v oa ob) (s : Same H H') : PlaceAt K H' v oa ob := by
  obtain ⟨T, x, y, e, h1, h2, h3, h4, h5⟩ := h
  exact ⟨T, x, y, e, h1.same s, h2.same s, h3.same s, h4, h5⟩
theorem t_half {σ : L2.St} {H : Hp} {i j : Nat} {y u : V} {t : Stt} {o : Option PyData} {h : Int → Int → Bool} (hi : σ[i]? = some (some y)) (hj : σ[j]? = some (some u)) (hy : Dd K H y (odD o)) (ko : OF o) (hu : Dd K H u t.d) (ht : t.Ok) {H1 : Hp} (s : Same H H1) {Q : VK} (q : ∀ H2, Same H1 H2 → Q (.bl (o.any fun b => h (sideF t b) 0)) H2) :
    tAndV (tOp (fun x y H Q => y = V.non ∧ Q (V.bl !decide (x = V.non)) H) (tVar i) (tC V.non)) (tOp (rI0 fun a b => .bl (h a b)) (tCall (spSide K) [] E0 (tCons (tVar i) (tCons (tVar j) tNil))) (tC (.int 0))) σ H1 Q := by
  refine ⟨_, hi, rfl, ?_⟩
  rw [of_non hy ko]
  cases o with
  | none => exact ⟨_, rfl, tst (fun e => by cases e) fun _ => q _ (Same.refl _)⟩
  | some b => exact ⟨_, rfl, tst (fun _ => ⟨_, hi, _, hj, y, u, t, b, rfl, Dd.same s (show Dd K H y b from hy), ko b rfl, hu.same s, ht, fun H2 s2 => ⟨_, _, rfl, rfl, q _ s2⟩⟩) fun e => by cases e⟩
def spClosed (K : PySem.W.Frag) : Sp := fun vs H Q _ => ∃ (v sv : V) (d : PyData) (ts : List Stt) (oa ob : Option PyData), vs = [v, sv] ∧ PlaceAt K H v oa ob ∧ Dd K H sv d ∧ StrsK d ts ∧ ∀ H', Same H H' → Q (.bl (shutAll ts oa ob)) H'
theorem ok_lclosed {f : Addr} {fd : FuncData} (F : FnP K "_law_is_closed" sLClosed f fd) (M : Nm mg) (DSd : Df P w K mg base "_law_side" 2 ["fact", "stretch"] (spSide K)) : FnOk P w K mg base CX0 3 f fd ["place", "stretches"] (spClosed K) := by
  refine F.ok scLClosed (fun vs H Q E h => ?_) (fun cdv A outer s H vs Q E hr h => ?_)
  · obtain ⟨v, sv, d, ts, oa, ob, rfl, _⟩ := h
    rfl
  obtain ⟨v, sv, d, ts, oa, ob, rfl, ⟨T, x, y, rfl, hT, hx, hy, ka, kb⟩, hd, ⟨rfl, hz, hn⟩, q⟩ := h
  refine ⟨_, PSs.nox (pss_cons (ps_asg (pv 0) (pg_tup rfl (pgs_cons (pg_name (i := 2) scLClosed.nd rfl (Or.inl rfl)) (pgs_cons (pg_name (i := 3) scLClosed.nd rfl (Or.inl rfl)) pgs_nil))))
      (pss_cons (ps_for PassesOwn.never rfl (pi_tup (pv 1)) (pg_name (i := 4) scLClosed.nd rfl (Or.inl rfl)) (pss_cons (ps_set (i := 5) scLClosed.nd rfl (Or.inl rfl) (pe_and (pe_cmpR op_notN (pv 3) pe_non (nomark _)) (pe_one (pe_cmpR op_lt (pe_df DSd hr (by decide) (pa_cons (pv 3) (pa_cons (pv 4) pa_nil))) pe_int (nomark _)))))
      (pss_cons (ps_set (i := 6) scLClosed.nd rfl (Or.inl rfl) (pe_and (pe_cmpR op_notN (pv 2) pe_non (nomark _)) (pe_one (pe_cmpR op_gt (pe_df DSd hr (by decide) (pa_cons (pv 2) (pa_cons (pv 4) pa_nil))) pe_int (nomark _)))))
      (pss_one (ps_if (PW.pt (pw_and (pt_not (pt_truth (pv 5) (fun _ => rfl))) (pw_and1 (pt_not (pt_truth (pv 6) (fun _ => rfl)))))) (pss_one (ps_ret pe_bl)) pss_nil)))))
      (pss_one (ps_ret pe_bl)))), ?_⟩
  obtain ⟨a, xs, rfl, h0, h2⟩ := ofTup hd
  refine ⟨_, rfl, T, _, rfl, hT.sq, rfl, _, _, rfl, _, _, rfl, rfl, ?_⟩
  have lxs : xs.length = ts.length := by rw [dall_len h2, List.length_map]
  refine ⟨_, rfl, a, rfl, ⟨_, h0.sq⟩, ?_⟩
  refine for_tup (xs := xs) (fun i σ H' => Same H H' ∧ ((ts.take i).all fun t => shutTo t oa ob) = true ∧ ∃ z1 z2 z3, σ = [some (.ref T), some (.ref a), some x, some y, z1, z2, z3]) ⟨Same.refl H, rfl, none, none, none, rfl⟩ (fun i σ H' _ e => SqT.same e.1 h0.sq) (fun i u σ H' hu e => ?_) (fun σ H' e => ?_)
  · obtain ⟨s1, al, z1, z2, z3, rfl⟩ := e
    obtain ⟨dd, he, hdd⟩ := dall_at' h2 hu
    rw [List.getElem?_map] at he
    obtain ⟨t, hti, rfl⟩ := Option.map_eq_some_iff.mp he
    have hdd' : Dd K H u t.d := hdd
    have hto := hn t (List.mem_of_getElem? hti)
    have grow : shutTo t oa ob = true → ((ts.take (i + 1)).all fun t => shutTo t oa ob) = true := fun e => by
      rw [List.take_add_one, hti, List.all_append, al, Bool.true_and]
      show (shutTo t oa ob && true) = true
      rw [e]
      rfl
    have stop : shutTo t oa ob = false → shutAll ts oa ob = false := fun e => by
      unfold shutAll
      rw [List.all_eq_false]
      exact ⟨t, List.mem_of_getElem? hti, by rw [e]; exact Bool.false_ne_true⟩
    refine t_half (h := fun a b => decide (a < b)) (i := 3) (j := 4) rfl rfl hy kb hdd' hto s1 fun H2 s2 => ?_
    refine t_half (h := fun a b => decide (b < a)) (i := 2) (j := 4) rfl rfl hx ka hdd' hto (s1.trans s2) fun H3 s3 => ?_
    have s13 := (s1.trans s2).trans s3
    refine ⟨_, rfl, _, rfl, tst (fun e1 => ⟨_, rfl, _, rfl, tst (fun e2 => ?_) fun e2 => ?_⟩) fun e1 => ?_⟩
    · have e : shutTo t oa ob = false := by
        unfold shutTo
        simp at e1 e2 ⊢
        exact ⟨e1, e2⟩
      have q := q _ s13
      rw [stop e] at q
      exact q
    · refine ⟨s13, grow ?_, _, _, _, rfl⟩
      have e2 : (!(oa.any fun a => decide (0 < sideF t a))) = false := e2
      unfold shutTo
      have e2 : (oa.any fun a => decide (0 < sideF t a)) = true := by
        cases hh : (oa.any fun a => decide (0 < sideF t a)) with
        | true => rfl
        | false => rw [hh] at e2; cases e2
      rw [e2, Bool.or_true]
    · refine ⟨s13, grow ?_, _, _, _, rfl⟩
      have e1 : (!(ob.any fun a => decide (sideF t a < 0))) = false := e1
      unfold shutTo
      have e1 : (ob.any fun a => decide (sideF t a < 0)) = true := by
        cases hh : (ob.any fun a => decide (sideF t a < 0)) with
        | true => rfl
        | false => rw [hh] at e1; cases e1
      rw [e1, Bool.true_or]
  · obtain ⟨s1, al, _⟩ := e
    rw [List.take_of_length_le (by omega)] at al
    have q := q _ s1
    unfold shutAll at q
    rw [al] at q
    exact q
end
end Sm
/-! _law_shown. -/
namespace Sm
open PySem PySem.Spec PyProof.Rows L2 Vd RZ
section
variable {P : Program} {w : World} {K : PySem.W.Frag} {mg : Str → Option Value} {base : Heap}
theorem scLShown : FnScope ["p", "tree", "place", "stretches", "is_top", "edges", "children", "at", "child"] ["p", "tree", "place", "stretches", "is_top"] (defScope sLShown) := ⟨rfl, rfl, rfl, by decide +kernel, rfl, by decide +kernel, by decide +kernel⟩
/-- what is shown of a child, of the top -/
def shT (ts : List Stt) (p : Int) (b : Bool) (t : Tr) (oa ob : Option PyData) : Tr := if (!b && shutAll ts oa ob) = true then .cut (trNum p t) (trMany t) else sct ts p t oa ob
def spLShown (K : PySem.W.Frag) : Nat → Sp
  | 0 => fun _ _ _ _ => False
  | k + 1 => fun vs H Q _ => ∃ (p : Int) (v : V) (ds : List PyData) (pl sv : V) (oa ob : Option PyData) (d : PyData) (ts : List Stt) (b : Bool), vs = [.int p, v, pl, sv, .bl b] ∧ 1 < p ∧ p ≤ 170141183460469231731687303715884105728 ∧ Dd K H v (shD (tree p ds)) ∧ FactL ds ∧ ds.length ≤ 3000 ∧ (∀ e ∈ ds, rkP p e ≤ k) ∧ PlaceAt K H pl oa ob ∧ Dd K H sv d ∧ StrsK d ts ∧
    ∀ u H', Same H H' → Dd K H' u (shD (shT ts p b (tree p ds) oa ob)) → Q u H'
theorem le13 {j n : Nat} (h : j ≤ 13) : j ≤ Nat.add 13 n := Nat.le_trans h (Nat.le_add_right 13 n)
theorem t_top {σ : L2.St} {H : Hp} {pl sv : V} {oa ob : Option PyData} {d : PyData} {ts : List Stt} {b : Bool} (h4 : σ[4]? = some (some (.bl b))) (h2 : σ[2]? = some (some pl)) (h3 : σ[3]? = some (some sv)) (hpl : PlaceAt K H pl oa ob) (hsv : Dd K H sv d) (hts : StrsK d ts) {Q : Bool → Hp → Prop} (q : ∀ H1, Same H H1 → Q (!b && shutAll ts oa ob) H1) :
    tAnd (tNot fun σ H Q => tVar 4 σ H fun x H' => ∃ k, TruV K x H' k ∧ Q k H') (tB (tCall (spClosed K) [] E0 (tCons (tVar 2) (tCons (tVar 3) tNil)))) σ H Q := by
  refine ⟨_, h4, _, rfl, ?_⟩
  cases b with
  | true => exact q _ (Same.refl H)
  | false => exact ⟨_, h2, _, h3, pl, sv, d, ts, oa, ob, rfl, hpl, hsv, hts, fun H1 s1 => ⟨_, rfl, q H1 s1⟩⟩
theorem ok_lshown {f : Addr} {fd : FuncData} (F : FnP K "_law_shown" sLShown f fd) (hm : mg "_law_shown" = some (.ref f)) (hk : PySem.W.keepIn K (.ref f) = true) (hb : Binds K fd ["p", "tree", "place", "stretches", "is_top"] []) (M : Nm mg) (M2 : Nm2 mg) (DCl : Df P w K mg base "_law_is_closed" 3 ["place", "stretches"] (spClosed K)) (DP : Df P w K mg base "_law_pair" 12 ["p", "tree"] (spLPair K 7)) : ∀ k, FnOk P w K mg base CX0 (13 + k) f fd ["p", "tree", "place", "stretches", "is_top"] (spLShown K k)
  | 0 => ⟨fun vs H Q E h => h.elim, fun A outer s H args us vs Q E hr e0 hb' r h => h.elim⟩
  | n + 1 => by
    have DS : Df P w K mg base "_law_shown" (13 + n) ["p", "tree", "place", "stretches", "is_top"] (spLShown K n) := ⟨f, fd, hm, hk, hb, ok_lshown F hm hk hb M M2 DCl DP n⟩
    refine F.ok scLShown (fun vs H Q E h => ?_) (fun cdv A outer s H vs Q E hr h => ?_)
    · obtain ⟨p, v, ds, pl, sv, oa, ob, d, ts, b, rfl, _⟩ := h
      rfl
    obtain ⟨p, v, ds, pl, sv, oa, ob, d, ts, b, rfl, p1, p2, hv, hf, zd, hrk, hpl, hsv, hts, q⟩ := h
    refine ⟨_, PSs.nox (pss_cons (ps_if (PW.pt (pw_and (pt_not (pt_truth (pv 4) (fun _ => rfl))) (pw_and1 (pt_val (pe_df DCl hr (le13 (by decide)) (pa_cons (pv 2) (pa_cons (pv 3) pa_nil))))))) (pss_one (ps_ret (pe_op (r := rCatA K) op_catA (pe_tup (pa_cons pe_str pa_nil)) (pe_df DP hr (le13 (by decide)) (pa_cons (pv 0) (pa_cons (pv 1) pa_nil)))))) pss_nil)
      (pss_cons (ps_if (pt_cmpR op_eq (pe_ix (r := rIxT K) ix_tup (pv 1) pe_int (fun _ _ => rfl)) pe_str (nomark _)) (pss_one (ps_ret (pv 1))) pss_nil)
      (pss_cons (ps_set (i := 5) scLShown.nd rfl (Or.inl rfl) (pe_op op_cat (pe_op op_cat (pe_lst (pa_cons (pe_ix (r := rIxT K) ix_tup (pv 2) pe_int (fun _ _ => rfl)) pa_nil)) (pe_callTy (r := rLof K) call_lof (by rfl) M.list (by decide +kernel) (pa_cons (pe_ix (r := rIxT K) ix_tup (pv 1) pe_int (fun _ _ => rfl)) pa_nil))) (pe_lst (pa_cons (pe_ix (r := rIxT K) ix_tup (pv 2) pe_int (fun _ _ => rfl)) pa_nil))))
      (pss_cons (ps_set (i := 6) scLShown.nd rfl (Or.inl rfl) (pe_lst pa_nil))
      (pss_cons (ps_for PassesOwn.never rfl (pi_enumT (by rfl) M2.enumerate (pa_cons (pe_ix (r := rIxT K) ix_tup (pv 1) pe_int (fun _ _ => rfl)) pa_nil)) (pg_tup rfl (pgs_cons (pg_name (i := 7) scLShown.nd rfl (Or.inl rfl)) (pgs_cons (pg_name (i := 8) scLShown.nd rfl (Or.inl rfl)) pgs_nil))) (pss_one (ps_expr (pe_bm PySem.F.plainAttrs_list PySem.F.slot_list_append PySem.F.type_list_append mt_append (pv 6) (pa_cons (pe_df DS hr (Nat.le_refl _) (pa_cons (pv 0) (pa_cons (pv 8) (pa_cons (pe_tup (pa_cons (pe_ix (r := rIxL K) ix_list (pv 5) (pv 7) (fun _ _ => rfl)) (pa_cons (pe_ix (r := rIxL K) ix_list (pv 5) (pe_op op_add (pv 7) pe_int) (fun _ _ => rfl)) pa_nil))) (pa_cons (pv 3) (pa_cons pe_bl pa_nil)))))) pa_nil)))))
      (pss_one (ps_ret (pe_tup (pa_cons pe_str (pa_cons (pe_callTy (r := rTupOf K) call_tuple_of (by rfl) M.tuple (by decide +kernel) (pa_cons (pv 6) pa_nil)) (pa_cons (pe_ix (r := rIxT K) ix_tup (pv 1) pe_int (fun _ _ => rfl)) pa_nil))))))))))), ?_⟩
    refine t_top (σ := [some (.int p), some v, some pl, some sv, some (.bl b), none, none, none, none]) (H := H) rfl rfl rfl hpl hsv hts fun H1 s1 => ?_
    refine tst (fun e => ?_) fun e => ?_
    · unfold shT at q
      rw [if_pos e] at q
      refine ⟨by rw [sizeLine_eq]; decide, fun T nT => ⟨_, rfl, _, rfl, p, v, ds, rfl, p1, p2, (hv.same s1).same (same_up nT), hf, zd, fun e _ => rkI_le _, fun T2 H2 s2 hT2 => ?_⟩⟩
      refine cat_any (xs := [V.str "cut"]) (.inl (s2 _ _ upd_same)) hT2 (by rw [sizeLine_eq]; exact (by decide : 3 ≤ 16777216)) fun T3 H3 s3 hT3 => q _ _ ((s1.trans (same_up nT)).trans (s2.trans s3)) ?_
      rw [cut_sh]
      exact .tup hT3 (.cons (.str _) (.cons (.int _) (.cons (.int _) .nil)))
    · unfold shT at q
      rw [if_neg (by rw [e]; exact Bool.false_ne_true)] at q
      have hv1 := hv.same s1
      obtain ⟨T, x, y, rfl, hT, hx, hy, ka, kb⟩ := hpl.same s1
      have hsv1 := hsv.same s1
      have q : ∀ u H', Same H1 H' → Dd K H' u (shD (sct ts p (tree p ds) oa ob)) → Q u H' := fun u H' s => q u H' (s1.trans s)
      clear hv hpl hsv
      rcases show_cases p ds with ⟨et, es⟩ | ⟨m, ls, own, ⟨dm, hdm, edm⟩, et, hl, es, hls, ho, zo⟩
      · have hsc : sct ts p (tree p ds) oa ob = tree p ds := by
          rw [et]
          unfold sct scts
          rfl
        rw [hsc] at q
        have qv := q v H1 (Same.refl H1) hv1
        rw [es] at hv1
        obtain ⟨a, xs, rfl, ha, hd⟩ := ofTup hv1
        cases hd with
        | cons h1 h2 =>
          cases h1
          exact ⟨_, rfl, a, _, 0, _, rfl, rfl, ha.sq, atI_nat (j := 0) rfl, rfl, _, rfl, iteT ⟨_, rfl, qv⟩⟩
      · obtain ⟨n', rfl⟩ : ∃ n', n = n' + 1 := ⟨n - 1, by have := hrk dm hdm; omega⟩
        have tn : m ≤ n' := by
          have := hrk dm hdm
          omega
        have hkS : keyT (shD (tree p ds)) = true := tree_key (facts_dp hf).1
        rw [es] at hv1
        have hcsd : shDs (ls.map (tree p)) = ls.map fun l => shD (tree p l) := by
          rw [shDs_map, List.map_map]
          rfl
        have ck : keyTs (shDs (ls.map (tree p))) = true := by
          rw [es] at hkS
          rw [hcsd]
          have : keyTs (ls.map fun l => shD (tree p l)) = true ∧ keyTs own = true := by simpa [keyT, keyTs] using hkS
          exact this.1
        rw [et] at q
        obtain ⟨a, xs, rfl, ha, hd⟩ := ofTup hv1
        cases hd with
        | cons h1 h2 =>
          cases h2 with
          | cons h3 h4 =>
            cases h4 with
            | cons h5 h6 =>
              cases h6
              cases h1
              obtain ⟨ca, cv, rfl, hca, hcd⟩ := ofTup h3
              obtain ⟨wa, os, rfl, hoa, hod⟩ := ofTup h5
              have lcv := dall_len hcd
              rw [List.length_map] at lcv
              have los := dall_len hod
              refine ⟨_, rfl, a, _, 0, _, rfl, rfl, ha.sq, atI_nat (j := 0) rfl, rfl, _, rfl, iteF ?_⟩
              have hbn : DdAll K H1 (x :: (os ++ [y])) ((oa :: (own.map some ++ [ob])).map odD) := by
                have h := DdAll.cons hx (ddAll_snoc hod hy)
                have e : (oa :: (own.map some ++ [ob])).map odD = odD oa :: (own ++ [odD ob]) := by
                  simp [Function.comp_def, odD]
                rw [e]
                exact h
              have hlen : (ls.map (tree p)).length = own.length + 1 := by rw [List.length_map, hl]
              have Wl := scts_len ts p (ls.map (tree p)) oa own ob
              have Wk := cuts_key ts p (ls.map (tree p)) oa own ob ck
              have Wa := scts_at ts p (ls.map (tree p)) oa own ob
              unfold sct at q
              generalize hW : scts ts p (ls.map (tree p)) oa own ob = W at Wl Wk Wa q
              have ofo : ∀ z ∈ oa :: (own.map some ++ [ob]), OF z := fun z hz => by
                simp only [List.mem_cons, List.mem_append, List.mem_map, List.not_mem_nil, or_false] at hz
                rcases hz with rfl | ⟨e, he, rfl⟩ | rfl
                · exact ka
                · intro d hd
                  cases hd
                  exact hf e (ho e he)
                · exact kb
              refine ⟨_, rfl, T, _, 0, x, rfl, rfl, hT.sq, atI_nat (j := 0) rfl, (by rw [sizeLine_eq]; exact (by decide : 1 ≤ 16777216)), fun l0 n0 => ?_⟩
              have s0 : Same H1 (upd H1 l0 (.lst [x])) := same_up n0
              have e0 : upd H1 l0 (.lst [x]) l0 = some (.lst [x]) := upd_same
              generalize upd H1 l0 (.lst [x]) = H2 at s0 e0 ⊢
              refine ⟨_, rfl, a, _, 2, _, rfl, rfl, (ha.same s0).sq, atI_nat (j := 2) rfl, wa, os, rfl, .inr (hoa.same s0).sq, fun l1 n1 => ?_⟩
              have s1' : Same H2 (upd H2 l1 (.lst os)) := same_up n1
              refine ⟨l0, l1, _, _, rfl, rfl, s1' _ _ e0, upd_same, by simp [sizeLine_eq]; omega, fun l2 n2 => ?_⟩
              have s2 : Same H1 (upd (upd H2 l1 (.lst os)) l2 (.lst ([x] ++ os))) := (s0.trans s1').trans (same_up n2)
              have e2 : upd (upd H2 l1 (.lst os)) l2 (.lst ([x] ++ os)) l2 = some (.lst ([x] ++ os)) := upd_same
              generalize upd (upd H2 l1 (.lst os)) l2 (.lst ([x] ++ os)) = H3 at s2 e2 ⊢
              refine ⟨_, rfl, T, _, 1, y, rfl, rfl, (hT.same s2).sq, atI_nat (j := 1) rfl, (by rw [sizeLine_eq]; exact (by decide : 1 ≤ 16777216)), fun l3 n3 => ?_⟩
              refine ⟨l2, l3, _, _, rfl, rfl, same_up n3 _ _ e2, upd_same, by simp [sizeLine_eq]; omega, fun E' n4 => ?_⟩
              have s4 : Same H1 (upd (upd H3 l3 (.lst [y])) E' (.lst ([x] ++ os ++ [y]))) := (s2.trans (same_up n3)).trans (same_up n4)
              have e4 : upd (upd H3 l3 (.lst [y])) E' (.lst ([x] ++ os ++ [y])) E' = some (.lst (x :: (os ++ [y]))) := by
                rw [upd_same]
                simp
              generalize upd (upd H3 l3 (.lst [y])) E' (.lst ([x] ++ os ++ [y])) = H4 at s4 e4 ⊢
              refine ⟨by rw [sizeLine_eq]; decide, fun L nL => ?_⟩
              have s5 : Same H4 (upd H4 L (.lst [])) := same_up nL
              have e5 : upd H4 L (.lst []) L = some (.lst []) := upd_same
              generalize upd H4 L (.lst []) = H5 at s5 e5 ⊢
              have s45 := s4.trans s5
              refine ⟨_, rfl, a, _, 1, _, rfl, rfl, (ha.same s45).sq, atI_nat (j := 1) rfl, ca, cv, rfl, (hca.same s45).sq, ?_⟩
              refine for_enumT (xs := cv) (fun i σ H' => Same H4 H' ∧ (∃ z1 z2, σ = [some (.int p), some (.ref a), some (.ref T), some sv, some (.bl b), some (.ref E'), some (.ref L), z1, z2]) ∧ ∃ vs, H' L = some (.lst vs) ∧ DdAll K H' vs ((shDs W).take i))
                ⟨s5, ⟨none, none, rfl⟩, [], e5, .nil⟩ (fun i σ H' z => (hca.same (s4.trans z.1)).sq) (fun i x' T' σ H' hx' z nT => ?_) (fun σ H' z => ?_)
              · obtain ⟨s6, ⟨z1, z2, rfl⟩, vs, hL, hvs⟩ := z
                obtain ⟨dd, hd1, hd2⟩ := dall_at' hcd hx'
                rw [List.getElem?_map] at hd1
                obtain ⟨l, hl1, rfl⟩ := Option.map_eq_some_iff.mp hd1
                obtain ⟨hl2, hl3⟩ := hls l (List.mem_of_getElem? hl1)
                have il := (List.getElem?_eq_some_iff.mp hl1).1
                obtain ⟨bx, hbx⟩ : ∃ b, (x :: (os ++ [y]))[i]? = some b := ⟨_, List.getElem?_eq_getElem (by simp; omega)⟩
                obtain ⟨by', hby⟩ : ∃ b, (x :: (os ++ [y]))[i + 1]? = some b := ⟨_, List.getElem?_eq_getElem (by simp; omega)⟩
                obtain ⟨dx', hdx1, hdx2⟩ := dall_at' hbn hbx
                obtain ⟨dy', hdy1, hdy2⟩ := dall_at' hbn hby
                rw [List.getElem?_map] at hdx1 hdy1
                obtain ⟨pa, hpa, rfl⟩ := Option.map_eq_some_iff.mp hdx1
                obtain ⟨pb, hpb, rfl⟩ := Option.map_eq_some_iff.mp hdy1
                have fpa : OF pa := ofo pa (List.mem_of_getElem? hpa)
                have fpb : OF pb := ofo pb (List.mem_of_getElem? hpb)
                have hWi := Wa i (tree p l) pa pb hlen (by rw [List.getElem?_map, hl1]; rfl) hpa (by simpa using hpb)
                have sT : Same H' (upd H' T' (.tup [V.int (i : Nat), x'])) := same_up nT
                have s7 := s4.trans (s6.trans sT)
                refine ⟨T', _, rfl, .inl (.inl upd_same), rfl, .int (i : Nat), [x'], rfl, x', [], rfl, rfl, ?_⟩
                have hL7 := sT _ _ hL
                have s67 := s6.trans sT
                have kvs := DdAll.same sT hvs
                generalize upd H' T' (.tup [V.int (i : Nat), x']) = H7 at sT s7 hL7 s67 kvs ⊢
                refine ⟨.ref L, rfl, .inl ⟨rfl, _, SqL.of hL7⟩, _, rfl, _, rfl, _, rfl, _, rfl, E', _, (i : Int), bx, rfl, rfl, SqL.of (s67 _ _ e4), atI_nat hbx, _, rfl, _, rfl, _, _, rfl, rfl, E', _, ((i + 1 : Nat) : Int), by', rfl, rfl, SqL.of (s67 _ _ e4), atI_nat hby, by rw [sizeLine_eq]; exact (by decide : 2 ≤ 16777216), fun T3 nT3 => ?_⟩
                have s8 := same_up (o := .tup [bx, by']) nT3
                have e8 : upd H7 T3 (.tup [bx, by']) T3 = some (.tup [bx, by']) := upd_same
                generalize upd H7 T3 (.tup [bx, by']) = H8 at s8 e8 ⊢
                have s78 := s7.trans s8
                refine ⟨_, rfl, p, x', l, .ref T3, sv, pa, pb, d, ts, false, rfl, p1, p2, hd2.same s78, fun e he => hf e (hl2 e he).1, by omega, fun e he => Nat.le_trans (hl2 e he).2 tn, ⟨T3, bx, by', rfl, .inl e8, hdx2.same s78, hdy2.same s78, fpa, fpb⟩, hsv1.same s78, hts, fun u H9 s9 hu => ?_⟩
                have hL9 := s9 _ _ (s8 _ _ hL7)
                have kvs9 := DdAll.same s9 (DdAll.same s8 kvs)
                refine ⟨L, vs, u, rfl, rfl, hL9, ?_, ?_, ⟨_, _, rfl⟩, vs ++ [u], upd_same, ?_⟩
                · have h := ddAll_len hvs
                  rw [List.length_take, shDs_map, List.length_map, Wl, List.length_map] at h
                  rw [sizeLine_eq]
                  omega
                · exact same_updN ((s67.trans s8).trans s9) nL
                · have kD : Kt 0 H9 (upd H9 L (.lst (vs ++ [u]))) := kt_upd hL9 (fun e => e)
                  have e3 : (shDs W)[i]? = some (shD (shT ts p false (tree p l) pa pb)) := by
                    rw [shDs_map, List.getElem?_map, hWi]
                    rfl
                  rw [take_snoc e3]
                  refine dds_kt kD (keyTs_all.mpr fun z hz => ?_) (ddAll_snoc kvs9 hu)
                  rw [← take_snoc e3] at hz
                  exact keyTs_mem Wk (List.mem_of_mem_take hz)
              · obtain ⟨s6, ⟨z1, z2, rfl⟩, vs, hL, hvs⟩ := z
                have s46 := s4.trans s6
                rw [List.take_of_length_le (by rw [shDs_map, List.length_map, Wl, List.length_map]; omega)] at hvs
                refine ⟨_, rfl, L, vs, rfl, .inl ⟨SqL.of hL, fun T2 nT2 => ?_⟩⟩
                have s7 := s46.trans (same_up (o := .tup vs) nT2)
                refine ⟨_, rfl, a, _, 2, _, rfl, rfl, (ha.same s7).sq, atI_nat (j := 2) rfl, (by rw [sizeLine_eq]; exact (by decide : 3 ≤ 16777216)), fun T3 nT3 => q _ _ (s7.trans (same_up nT3)) ?_⟩
                have s8 : Same _ _ := same_up (o := .tup [V.str ("node" : Str), .ref T2, .ref wa]) nT3
                have hne : W.isEmpty = false := by
                  cases hp : W with
                  | nil => rw [hp, hlen] at Wl; cases Wl
                  | cons _ _ => rfl
                unfold shD
                rw [hne, if_neg Bool.false_ne_true]
                exact .tup (.inl upd_same) (.cons (.str _) (.cons (.tup (.inl (s8 _ _ upd_same)) (DdAll.same s8 (DdAll.same (same_up nT2) hvs))) (.cons (h5.same (s7.trans s8)) .nil)))
end
end Sm
/-! list.extend of a tuple. -/
namespace Ex
open PySem PySem.SeqAt PySem.AutoSeq1 PySem.MeetsSeq PySem.MeetsSeq2 PySem.MeetsSeq3 PySem.Spec PyProof.Rows L2
theorem extend_tup (l : Addr) (items : Array Value) (n : Nat) (b : Addr) (items2 : Array Value) (n2 : Nat) (f2 : Option Addr) (g2 : Array (Option Value)) (hs0 : ¬(!items.isEmpty && Builtin.List.listTooLong (items.size + items2.size)) = true) (hs1 : items.size ≤ sizeLine) (hs2 : items.size + items2.size ≤ sizeLine + 1) :
    Meets (Builtin.«list.extend» ⟨[.ref l, .ref b], []⟩) (fun _ R s => s.heap.get? l = some { cls := .type "list", dict := none, data := .seq items n, slots := #[] } ∧ s.heap.get? b = some { cls := .type "tuple", dict := f2, data := .seq items2 n2, slots := g2 } ∧ R (.ok (.ret Value.none)) { s with heap := s.heap.update l (Obj.mapSeq fun x => x ++ items2), toks := s.toks }) :=
  .of_wp fun prog w A R s h => by
    obtain ⟨hp, g, d, tk, os⟩ := s
    obtain ⟨hl, hb, h⟩ := h
    have f1 := idx_int
    have f2' := AutoSeq1.sub_tuple_tuple
    have f3 := AutoSeq1.sub_list_list
    have f4 := AutoSeq1.sub_tuple_list
    have f5 := AutoSeq1.sub_list_tuple
    have hz' : (items ++ items2).size ≤ sizeLine + 1 := by rw [Array.size_append]; exact hs2
    wp_walk using (wpAny_updateSeq hl rfl (hz := hs1) (_hz' := hz')), wpAny_loadPart' hl, wpAny_loadPart' hb
    exact ⟨_, rfl, h⟩
end Ex
namespace L2
open PySem PySem.Spec PyProof.Rows
variable {X : Cx}
def rExtendT (K : PySem.W.Frag) : V → List V → Hp → VK → Prop := fun x vs H Q => ∃ l b xs zs, x = .ref l ∧ vs = [.ref b] ∧ H l = some (.lst xs) ∧ SqT K H b zs ∧ xs.length + zs.length ≤ sizeLine ∧ Q .non (upd H l (.lst (xs ++ zs)))
theorem mt_extendT : MtM X "list.extend" (rExtendT X.K) := by
  intro pins s σ H x vs v us Q I rx rv h
  obtain ⟨l, b, xs, zs, rfl, rfl, hH, hB, hz, q⟩ := h
  cases rx
  obtain ⟨u, rfl, ru⟩ := rv.one
  cases ru
  obtain ⟨z, its, n, r, hl, e⟩ := I.lstM hH
  obtain ⟨its2, r2, ht, _⟩ := I.tuple hB
  obtain ⟨⟨c2, f2, d2, g2⟩, o2, hc2, n2, hd2⟩ := id ht
  simp only at hc2 hd2
  subst hc2 hd2
  have l2 : its2.length = zs.length := by rw [← r2.length]
  have hsz : its.toArray.size + its2.toArray.size ≤ sizeLine := by rw [List.size_toArray, List.size_toArray]; omega
  have hlong : ¬ (!its.toArray.isEmpty && Builtin.List.listTooLong (its.toArray.size + its2.toArray.size)) = true := by
    rw [notLongL hsz, Bool.and_false]
    exact Bool.false_ne_true
  refine call_meets F.slot_list_extend ⟨_, e, rfl⟩ F.entry_list_extend (F.args_list_extend_2 _ _)
    (Ex.extend_tup l its.toArray n b its2.toArray n2 f2 g2 hlong (by rw [List.size_toArray]; omega) (by omega)) ⟨e, o2, ?_⟩
  refine ⟨.non, _, I.lset (its' := its ++ its2) hH e (by simp) (r.append r2) ?_, rfl, q⟩
  rw [List.length_append]
  omega
end L2
/-! What showings tell, as mathematics. -/
namespace Sm
open PySem PySem.Spec PyProof.Rows L2 Vd
mutual
def trFacts : Tr → List PyData
  | .cut _ _ => []
  | .mk cs own => if cs.isEmpty = true then own else trFs cs own
def trFs : List Tr → List PyData → List PyData
  | [], _ => []
  | t :: r, own => trFacts t ++ (own.take 1 ++ trFs r (own.drop 1))
end
inductive ShOk (p : Int) : Nat → Tr → Prop
  | cut {k : Nat} {n : Int} {m : Nat} : 0 ≤ n → n < p → ShOk p k (.cut n m)
  | leaf {k : Nat} {own : List PyData} : FactL own → (∀ d ∈ own, rkP p d = 0) → ShOk p k (.mk [] own)
  | node {k r : Nat} {c : Tr} {cs : List Tr} {own : List PyData} : r < k → FactL own → own ≠ [] → (c :: cs).length = own.length + 1 → (∀ d ∈ own, rkP p d = r + 1) → (∀ t ∈ c :: cs, ShOk p r t) → ShOk p k (.mk (c :: cs) own)
theorem ShOk.mono {p : Int} {k k' : Nat} {t : Tr} (h : ShOk p k t) (l : k ≤ k') : ShOk p k' t := by
  cases h with
  | cut a b => exact .cut a b
  | leaf a b => exact .leaf a b
  | node a b c d e f => exact .node (by omega) b c d e f
def isCutT : Tr → Bool
  | .cut _ _ => true
  | _ => false
theorem sh_num {p : Int} {k : Nat} {t : Tr} (p1 : 1 < p) (h : ShOk p k t) : 0 ≤ trNum p t ∧ trNum p t < p := by
  cases h with
  | cut a b =>
    unfold trNum
    exact ⟨a, b⟩
  | leaf a b => exact trNum_mk p1 _ _
  | node a b c d e f => exact trNum_mk p1 _ _
theorem manys_mem : ∀ {cs : List Tr} {t : Tr}, t ∈ cs → trMany t ≤ trManys cs
  | [], t, h => nomatch h
  | c :: r, t, h => by
    unfold trManys
    rcases List.mem_cons.mp h with rfl | h
    · omega
    · have := manys_mem h
      omega
theorem many_kid {cs : List Tr} {own : List PyData} {t : Tr} (h : t ∈ cs) : trMany t + own.length ≤ trMany (.mk cs own) := by
  have := manys_mem h
  have e : trMany (.mk cs own) = own.length + trManys cs := by
    conv => lhs; unfold trMany
  omega
theorem many_own {cs : List Tr} {own : List PyData} : own.length ≤ trMany (.mk cs own) := by
  have e : trMany (.mk cs own) = own.length + trManys cs := by
    conv => lhs; unfold trMany
  omega
theorem manys_take : ∀ (cs : List Tr) (i : Nat), trManys (cs.take i) ≤ trManys cs
  | [], i => by simp
  | c :: cs, 0 => by
    rw [List.take_zero]
    unfold trManys
    omega
  | c :: cs, i + 1 => by
    have := manys_take cs i
    rw [List.take_succ_cons]
    unfold trManys
    omega
mutual
theorem trFacts_len : ∀ t : Tr, (trFacts t).length ≤ trMany t
  | .cut n m => by
    unfold trFacts trMany
    simp
  | .mk cs own => by
    have h := trFs_len cs own
    unfold trFacts trMany
    split <;> omega
theorem trFs_len : ∀ (cs : List Tr) (own : List PyData), (trFs cs own).length ≤ own.length + trManys cs
  | [], own => by
    unfold trFs
    simp
  | t :: r, own => by
    have h1 := trFacts_len t
    have h2 := trFs_len r (own.drop 1)
    unfold trFs trManys
    rw [List.length_append, List.length_append, List.length_take]
    rw [List.length_drop] at h2
    omega
end
theorem trFs_step : ∀ (cs : List Tr) (own : List PyData) (i : Nat) (t : Tr), cs[i]? = some t → trFs (cs.take (i + 1)) own = trFs (cs.take i) own ++ (trFacts t ++ (own.drop i).take 1)
  | [], own, i, t, h => by simp at h
  | c :: cs, own, 0, t, h => by
    cases h
    rw [List.take_succ_cons, List.take_zero, List.take_zero]
    simp [trFs]
  | c :: cs, own, i + 1, t, h => by
    have ih := trFs_step cs (own.drop 1) i t (by simpa using h)
    rw [List.take_succ_cons, List.take_succ_cons]
    unfold trFs
    rw [ih]
    have e : (own.drop 1).drop i = own.drop (i + 1) := by rw [List.drop_drop, Nat.add_comm]
    rw [e]
    simp
mutual
theorem trFacts_key : ∀ t : Tr, keyT (shD t) = true → keyTs (trFacts t) = true
  | .cut n m, h => by
    unfold trFacts
    rfl
  | .mk [] own, h => by
    have h2 : keyTs own = true := by simpa [shD, keyT, keyTs] using h
    unfold trFacts
    exact h2
  | .mk (c :: cs) own, h => by
    have h2 : keyTs (shDs (c :: cs)) = true ∧ keyTs own = true := by simpa [shD, keyT, keyTs] using h
    unfold trFacts
    exact trFs_key (c :: cs) own h2.1 h2.2
theorem trFs_key : ∀ (cs : List Tr) (own : List PyData), keyTs (shDs cs) = true → keyTs own = true → keyTs (trFs cs own) = true
  | [], own, h, k => by
    unfold trFs
    rfl
  | t :: r, own, h, k => by
    have h2 : keyT (shD t) = true ∧ keyTs (shDs r) = true := by simpa [shDs, keyTs] using h
    have h3 := trFacts_key t h2.1
    have h4 := trFs_key r (own.drop 1) h2.2 (keyTs_all.mpr fun d hd => keyTs_mem k (List.mem_of_mem_drop hd))
    unfold trFs
    refine keyTs_all.mpr fun d hd => ?_
    rcases List.mem_append.mp hd with hd | hd
    · exact keyTs_mem h3 hd
    · rcases List.mem_append.mp hd with hd | hd
      · exact keyTs_mem k (List.mem_of_mem_take hd)
      · exact keyTs_mem h4 hd
end
/-- what is shown, by cases -/
theorem sh_cases {p : Int} {k : Nat} {t : Tr} (h : ShOk p k t) : (∃ n m, t = .cut n m ∧ 0 ≤ n ∧ n < p ∧ shD t = .tuple [.str "cut", .int n, .int (m : Int)]) ∨ (∃ own, t = .mk [] own ∧ FactL own ∧ (∀ d ∈ own, rkP p d = 0) ∧ shD t = .tuple [.str "leaf", .tuple own]) ∨
    ∃ r c cs own, t = .mk (c :: cs) own ∧ r < k ∧ FactL own ∧ own ≠ [] ∧ (c :: cs).length = own.length + 1 ∧ (∀ d ∈ own, rkP p d = r + 1) ∧ (∀ t ∈ c :: cs, ShOk p r t) ∧ shD t = .tuple [.str "node", .tuple ((c :: cs).map shD), .tuple own] := by
  cases h with
  | @cut _ n m a b => exact .inl ⟨n, m, rfl, a, b, cut_sh n m⟩
  | @leaf _ own a b => exact .inr (.inl ⟨own, rfl, a, b, rfl⟩)
  | @node _ r c cs own a b c' d e f => exact .inr (.inr ⟨r, c, cs, own, rfl, a, b, c', d, e, f, by rw [shD_node rfl, shDs_map]⟩)
theorem sh_key {p : Int} : ∀ {k : Nat} {t : Tr}, ShOk p k t → keyT (shD t) = true := by
  intro k t h
  induction h with
  | cut a b => simp [cut_sh, keyT, keyTs]
  | leaf a b => simp [shD, keyT, keyTs, (facts_dp a).1]
  | node a b c d e f ih =>
    rw [shD_node rfl, shDs_map]
    have h1 : keyTs (List.map shD (_ :: _)) = true := keyTs_all.mpr fun z hz => by
      obtain ⟨u, hu, rfl⟩ := List.mem_map.mp hz
      exact ih u hu
    simp only [keyT, keyTs]
    rw [h1, (facts_dp b).1]
    rfl
end Sm
/-! The reading of showings: are_facts, is_cut, is_showing, facts_in. -/
namespace Sm
open PySem PySem.Spec PyProof.Rows L2 Vd RZ
section
variable {P : Program} {w : World} {K : PySem.W.Frag} {mg : Str → Option Value} {base : Heap}
def numD : PyData → Bool
  | .int i => decide (0 ≤ i)
  | _ => false
theorem scNumber : FnScope ["thing"] ["thing"] (defScope sNumber) := ⟨rfl, rfl, rfl, by decide +kernel, rfl, by decide +kernel, by decide +kernel⟩
def spNumb : Sp := fun vs H Q _ => ∃ i : Int, vs = [.int i] ∧ 0 ≤ i ∧ i.natAbs < 2 ^ 200 ∧ ∀ H', Same H H' → Q (.bl true) H'
theorem ok_number {f : Addr} {fd : FuncData} (F : FnP K "is_number" sNumber f fd) (DI : DA P w K mg base "is_integer" 1 intD) : FnOk P w K mg base CX0 2 f fd ["thing"] spNumb := by
  refine F.ok scNumber (fun vs H Q E h => ?_) (fun cdv A outer s H vs Q E hr h => ?_)
  · obtain ⟨i, rfl, _⟩ := h
    rfl
  obtain ⟨i, rfl, i0, i1, q⟩ := h
  refine ⟨_, PSs.nox (pss_one (ps_ret (pe_and (pe_df DI hr (by decide) (pa_cons (pv 0) pa_nil)) (pe_one (pe_cmpR op_ge (pv 0) pe_int (nomark _)))))), ?_⟩
  refine ⟨_, rfl, .int i, .int i, rfl, .int i, decide_eq_true i1, fun H1 s1 => ⟨_, rfl, tst (fun _ => ⟨_, rfl, _, _, rfl, rfl, ?_⟩) fun e => by cases e⟩⟩
  have q := q H1 s1
  rw [← decide_eq_true i0] at q
  exact q
theorem scAreF : FnScope ["thing", "part"] ["thing"] (defScope sAreF) := ⟨rfl, rfl, rfl, by decide +kernel, rfl, by decide +kernel, by decide +kernel⟩
def spAreF (K : PySem.W.Frag) : Sp := fun vs H Q _ => ∃ (v : V) (ds : List PyData), vs = [v] ∧ Dd K H v (.tuple ds) ∧ FactL ds ∧ ds.length ≤ 4000 ∧ ∀ H', Same H H' → Q (.bl true) H'
theorem ok_aref {f : Addr} {fd : FuncData} (F : FnP K "are_facts" sAreF f fd) (M : Nm mg) (DFc : DA P w K mg base "is_fact" 4 factD) : FnOk P w K mg base CX0 5 f fd ["thing"] (spAreF K) := by
  refine F.ok scAreF (fun vs H Q E h => ?_) (fun cdv A outer s H vs Q E hr h => ?_)
  · obtain ⟨v, ds, rfl, _⟩ := h
    rfl
  obtain ⟨v, ds, rfl, hd, hf, hz, q⟩ := h
  refine ⟨_, PSs.nox (pss_one (ps_ret (pe_and (pe_callB (id := "isinstance") (r := rIsi K) call_isi (by rfl) M.isinstance (by decide +kernel) (pa_cons (pv 0) (pa_cons (ty_cls (n := "tuple") M.tuple (by rfl) (by decide +kernel)) pa_nil))) (pe_one (pe_callB (r := rAll K) (cr_all rfl) (by rfl) M.all (by decide +kernel) (pa_cons (pe_lc (own := [("part", 1)]) (g := gName 1) (tt := tYes) (by rfl) scAreF.nd (pi_tup (pv 0)) (blkOk_by (N := ["thing", "part"]) (sc := defScope sAreF) (by decide +kernel)) (fun _ _ _ _ _ => pg_name (i := 1) scAreF.nd rfl (Or.inl rfl)) (fun _ _ _ _ _ => pts_nil) (fun _ _ _ _ _ => (pe_df DFc hr (by decide) (pa_cons (pv 1) pa_nil)))) pa_nil)))))), ?_⟩
  obtain ⟨a, xs, rfl, h0, h2⟩ := ofTup hd
  refine ⟨_, rfl, _, _, _, _, _, rfl, .ty _, tyx hd, kit_ty (kT _), _, rfl, tst (fun _ => ?_) fun e => by cases e⟩
  refine all_tup (p := factD) (i := 0) (j := 1) (fun Q' q' => ⟨_, rfl, q'⟩) h0.sq h2 hz (fun _ => rfl) (fun v d H' Q m s hd q => ?_) fun H1 s1 => ?_
  · exact ⟨_, rfl, v, d, rfl, hd, (hf d m).1, q⟩
  · rw [List.all_eq_true.mpr fun x hx => (hf x hx).2]
    exact q H1 s1
theorem scIsCut : FnScope ["p", "thing"] ["p", "thing"] (defScope sIsCut) := ⟨rfl, rfl, rfl, by decide +kernel, rfl, by decide +kernel, by decide +kernel⟩
def spIsCut (K : PySem.W.Frag) : Sp := fun vs H Q _ => ∃ (p : Int) (v : V) (t : Tr) (k : Nat), vs = [.int p, v] ∧ p ≤ 170141183460469231731687303715884105728 ∧ Dd K H v (shD t) ∧ ShOk p k t ∧ trMany t ≤ 4000 ∧ ∀ H', Same H H' → Q (.bl (isCutT t)) H'
theorem ok_iscut {f : Addr} {fd : FuncData} (F : FnP K "is_cut" sIsCut f fd) (DT : Df P w K mg base "is_tuple_of" 1 ["thing", "least", "most"] (spTupOf K)) (DNb : Df P w K mg base "is_number" 2 ["thing"] spNumb) : FnOk P w K mg base CX0 3 f fd ["p", "thing"] (spIsCut K) := by
  refine F.ok scIsCut (fun vs H Q E h => ?_) (fun cdv A outer s H vs Q E hr h => ?_)
  · obtain ⟨p, v, t, k, rfl, _⟩ := h
    rfl
  obtain ⟨p, v, t, k, rfl, p2, hd, ht, zt, q⟩ := h
  refine ⟨_, PSs.nox (pss_cons (ps_if (PW.pt (pw_or (pt_not (pt_val (pe_df DT hr (by decide) (pa_cons (pv 1) (pa_cons pe_int (pa_cons pe_int pa_nil)))))) (pw_or1 (pt_cmpR op_ne (pe_ix (r := rIxT K) ix_tup (pv 1) pe_int (fun _ _ => rfl)) pe_str (nomark _))))) (pss_one (ps_ret pe_bl)) pss_nil)
      (pss_one (ps_ret (pe_and (pe_df DNb hr (by decide) (pa_cons (pe_ix (r := rIxT K) ix_tup (pv 1) pe_int (fun _ _ => rfl)) pa_nil)) (pe_and (pe_cmpR op_lt (pe_ix (r := rIxT K) ix_tup (pv 1) pe_int (fun _ _ => rfl)) (pv 0) (nomark _)) (pe_one (pe_df DNb hr (by decide) (pa_cons (pe_ix (r := rIxT K) ix_tup (pv 1) pe_int (fun _ _ => rfl)) pa_nil)))))))), ?_⟩
  rcases sh_cases ht with ⟨n, m, rfl, n0, n1, es⟩ | ⟨own, rfl, hf, hr0, es⟩ | ⟨r, c, cs, own, rfl, hr1, hf, hne, hl, hro, hcs, es⟩
  · rw [es] at hd
    have zm : m ≤ 4000 := by
      unfold trMany at zt
      exact zt
    refine ⟨_, rfl, _, _, 3, 3, rfl, hd, _, rfl, ?_⟩
    rw [show tupOfD 3 3 (.tuple [.str "cut", .int n, .int (m : Int)]) = true from rfl]
    refine tst (fun e => by cases e) fun _ => ?_
    obtain ⟨a, xs, rfl, ha, h2⟩ := ofTup hd
    cases h2 with
    | cons g0 h2 => cases h2 with
      | cons g1 h2 => cases h2 with
        | cons g2 h2 =>
          cases h2
          cases g0
          cases g1
          cases g2
          refine ⟨_, rfl, a, _, 0, _, rfl, rfl, ha.sq, atI_nat (j := 0) rfl, rfl, _, rfl, iteF ?_⟩
          refine ⟨_, rfl, a, _, 1, _, rfl, rfl, ha.sq, atI_nat (j := 1) rfl, n, rfl, n0, by omega, fun H1 s1 => ⟨_, rfl, tst (fun _ => ?_) fun e => by cases e⟩⟩
          refine ⟨_, rfl, a, _, 1, _, rfl, rfl, (ha.same s1).sq, atI_nat (j := 1) rfl, _, rfl, _, _, rfl, rfl, _, rfl, ?_⟩
          rw [decide_eq_true n1]
          refine iteT ?_
          exact ⟨_, rfl, a, _, 2, _, rfl, rfl, (ha.same s1).sq, atI_nat (j := 2) rfl, (m : Int), rfl, by omega, by omega, fun H2 s2 => q H2 (s1.trans s2)⟩
  · rw [es] at hd
    refine ⟨_, rfl, _, _, 3, 3, rfl, hd, _, rfl, ?_⟩
    rw [show tupOfD 3 3 (.tuple [.str "leaf", .tuple own]) = false from rfl]
    exact iteT (q H (Same.refl H))
  · rw [es] at hd
    refine ⟨_, rfl, _, _, 3, 3, rfl, hd, _, rfl, ?_⟩
    rw [show tupOfD 3 3 (.tuple [.str "node", .tuple ((c :: cs).map shD), .tuple own]) = true from rfl]
    refine tst (fun e => by cases e) fun _ => ?_
    obtain ⟨a, xs, rfl, ha, h2⟩ := ofTup hd
    cases h2 with
    | cons g0 h2 =>
      cases g0
      exact ⟨_, rfl, a, _, 0, _, rfl, rfl, ha.sq, atI_nat (j := 0) rfl, rfl, _, rfl, iteT (q H (Same.refl H))⟩
theorem scIsShow : FnScope ["p", "thing", "part"] ["p", "thing"] (defScope sIsShow) := ⟨rfl, rfl, rfl, by decide +kernel, rfl, by decide +kernel, by decide +kernel⟩
def spIsShow (K : PySem.W.Frag) : Nat → Sp
  | 0 => fun _ _ _ _ => False
  | k + 1 => fun vs H Q _ => ∃ (p : Int) (v : V) (t : Tr), vs = [.int p, v] ∧ p ≤ 170141183460469231731687303715884105728 ∧ Dd K H v (shD t) ∧ ShOk p k t ∧ isCutT t = false ∧ trMany t ≤ 3000 ∧ ∀ H', Same H H' → Q (.bl true) H'
theorem ok_isshow {f : Addr} {fd : FuncData} (F : FnP K "is_showing" sIsShow f fd) (hm : mg "is_showing" = some (.ref f)) (hk : PySem.W.keepIn K (.ref f) = true) (hb : Binds K fd ["p", "thing"] []) (M : Nm mg) (DT : Df P w K mg base "is_tuple_of" 1 ["thing", "least", "most"] (spTupOf K)) (DAF : Df P w K mg base "are_facts" 5 ["thing"] (spAreF K)) (DIC : Df P w K mg base "is_cut" 3 ["p", "thing"] (spIsCut K)) : ∀ k, FnOk P w K mg base CX0 (5 + k) f fd ["p", "thing"] (spIsShow K k)
  | 0 => ⟨fun vs H Q E h => h.elim, fun A outer s H args us vs Q E hr e0 hb' r h => h.elim⟩
  | n + 1 => by
    have DS : Df P w K mg base "is_showing" (5 + n) ["p", "thing"] (spIsShow K n) := ⟨f, fd, hm, hk, hb, ok_isshow F hm hk hb M DT DAF DIC n⟩
    refine F.ok scIsShow (fun vs H Q E h => ?_) (fun cdv A outer s H vs Q E hr h => ?_)
    · obtain ⟨p, v, t, rfl, _⟩ := h
      rfl
    obtain ⟨p, v, t, rfl, p2, hd, ht, hnc, zt, q⟩ := h
    refine ⟨_, PSs.nox (pss_cons (ps_if (PW.pt (pw_and (pt_val (pe_df DT hr (le5 (by decide)) (pa_cons (pv 1) (pa_cons pe_int (pa_cons pe_int pa_nil))))) (pw_and1 (pt_cmpR op_eq (pe_ix (r := rIxT K) ix_tup (pv 1) pe_int (fun _ _ => rfl)) pe_str (nomark _))))) (pss_one (ps_ret (pe_df DAF hr (le5 (by decide)) (pa_cons (pe_ix (r := rIxT K) ix_tup (pv 1) pe_int (fun _ _ => rfl)) pa_nil)))) pss_nil)
      (pss_cons (ps_if (PW.pt (pw_or (pt_not (pt_val (pe_df DT hr (le5 (by decide)) (pa_cons (pv 1) (pa_cons pe_int (pa_cons pe_int pa_nil)))))) (pw_or (pt_cmpR op_ne (pe_ix (r := rIxT K) ix_tup (pv 1) pe_int (fun _ _ => rfl)) pe_str (nomark _)) (pw_or1 (pt_not (pt_val (pe_callB (id := "isinstance") (r := rIsi K) call_isi (by rfl) M.isinstance (by decide +kernel) (pa_cons (pe_ix (r := rIxT K) ix_tup (pv 1) pe_int (fun _ _ => rfl)) (pa_cons (ty_cls (n := "tuple") M.tuple (by rfl) (by decide +kernel)) pa_nil))))))))) (pss_one (ps_ret pe_bl)) pss_nil)
      (pss_cons (ps_if (PW.pt (pw_or (pt_not (pt_val (pe_df DAF hr (le5 (by decide)) (pa_cons (pe_ix (r := rIxT K) ix_tup (pv 1) pe_int (fun _ _ => rfl)) pa_nil)))) (pw_or (pt_not (pt_truth (pe_ix (r := rIxT K) ix_tup (pv 1) pe_int (fun _ _ => rfl)) (fun _ => rfl))) (pw_or1 (pt_cmpR op_ne (pe_callB call_len_seq (by rfl) M.len PySem.boot_len (pa_cons (pe_ix (r := rIxT K) ix_tup (pv 1) pe_int (fun _ _ => rfl)) pa_nil)) (pe_op op_add (pe_callB call_len_seq (by rfl) M.len PySem.boot_len (pa_cons (pe_ix (r := rIxT K) ix_tup (pv 1) pe_int (fun _ _ => rfl)) pa_nil)) pe_int) (nomark _)))))) (pss_one (ps_ret pe_bl)) pss_nil)
      (pss_one (ps_ret (pe_callB (r := rAll K) (cr_all rfl) (by rfl) M.all (by decide +kernel) (pa_cons (pe_lc (own := [("part", 2)]) (g := gName 2) (tt := tYes) (by rfl) scIsShow.nd (pi_tup (pe_ix (r := rIxT K) ix_tup (pv 1) pe_int (fun _ _ => rfl))) (blkOk_by (N := ["p", "thing", "part"]) (sc := defScope sIsShow) (by decide +kernel)) (fun _ _ _ _ _ => pg_name (i := 2) scIsShow.nd rfl (Or.inl rfl)) (fun _ _ _ _ _ => pts_nil) (fun _ _ _ _ _ => (pe_or (pe_df DIC hr (le5 (by decide)) (pa_cons (pv 0) (pa_cons (pv 2) pa_nil))) (pe_one (pe_df DS hr (Nat.le_refl _) (pa_cons (pv 0) (pa_cons (pv 2) pa_nil))))))) pa_nil))))))), ?_⟩
    rcases sh_cases ht with ⟨n, m, rfl, n0, n1, es⟩ | ⟨own, rfl, hf, hr0, es⟩ | ⟨r, c, cs, own, rfl, hr1, hf, hne, hl, hro, hcs, es⟩
    · cases hnc
    · have zo := many_own (cs := []) (own := own)
      rw [es] at hd
      refine ⟨_, rfl, _, _, 2, 2, rfl, hd, _, rfl, ?_⟩
      rw [show tupOfD 2 2 (.tuple [.str "leaf", .tuple own]) = true from rfl]
      refine iteT ?_
      obtain ⟨a, xs, rfl, ha, h2⟩ := ofTup hd
      cases h2 with
      | cons g0 h2 => cases h2 with
        | cons g1 h2 =>
          cases h2
          cases g0
          refine ⟨_, rfl, a, _, 0, _, rfl, rfl, ha.sq, atI_nat (j := 0) rfl, rfl, _, rfl, iteT ?_⟩
          exact ⟨_, rfl, a, _, 1, _, rfl, rfl, ha.sq, atI_nat (j := 1) rfl, _, own, rfl, g1, hf, by omega, q⟩
    · have zo := many_own (cs := c :: cs) (own := own)
      obtain ⟨n', rfl⟩ : ∃ n', n = n' + 1 := ⟨n - 1, by omega⟩
      rw [es] at hd
      refine ⟨_, rfl, _, _, 2, 2, rfl, hd, _, rfl, ?_⟩
      rw [show tupOfD 2 2 (.tuple [.str "node", .tuple ((c :: cs).map shD), .tuple own]) = false from rfl]
      refine iteF ?_
      obtain ⟨a, xs, rfl, ha, h2⟩ := ofTup hd
      have hd0 := hd
      cases h2 with
      | cons g0 h2 => cases h2 with
        | cons g1 h2 => cases h2 with
          | cons g2 h2 =>
            cases h2
            cases g0
            obtain ⟨ca, cv, rfl, hca, hcd⟩ := ofTup g1
            have g1' := g1
            have g2' := g2
            obtain ⟨wa, ov, rfl, hwa, hwd⟩ := ofTup g2
            have lcv := dall_len hcd
            rw [List.length_map] at lcv
            have lov := dall_len hwd
            have ge : ov.isEmpty = false := by
              cases ov with
              | nil =>
                exact absurd (List.length_eq_zero_iff.mp lov.symm) hne
              | cons _ _ => rfl
            refine ⟨_, rfl, _, _, 3, 3, rfl, hd0, _, rfl, ?_⟩
            rw [show tupOfD 3 3 (.tuple [.str "node", .tuple ((c :: cs).map shD), .tuple own]) = true from rfl]
            refine tst (fun e => by cases e) fun _ => ?_
            refine ⟨_, rfl, a, _, 0, _, rfl, rfl, ha.sq, atI_nat (j := 0) rfl, rfl, _, rfl, iteF ?_⟩
            refine ⟨_, rfl, a, _, 1, _, rfl, rfl, ha.sq, atI_nat (j := 1) rfl, _, _, _, _, _, rfl, .ty _, tyx g1', kit_ty (kT _), _, rfl, tst (fun e => by cases e) fun _ => ?_⟩
            refine ⟨_, rfl, a, _, 2, _, rfl, rfl, ha.sq, atI_nat (j := 2) rfl, _, own, rfl, g2', hf, by omega, fun H1 s1 => ⟨_, rfl, tst (fun e => by cases e) fun _ => ?_⟩⟩
            refine ⟨_, rfl, a, _, 2, _, rfl, rfl, (ha.same s1).sq, atI_nat (j := 2) rfl, _, .inr (.inl ⟨_, (hwa.same s1).sq, rfl⟩), ?_⟩
            rw [ge]
            refine tst (fun e => by cases e) fun _ => ?_
            refine ⟨_, rfl, a, _, 1, _, rfl, rfl, (ha.same s1).sq, atI_nat (j := 1) rfl, ca, cv, rfl, .inr (hca.same s1).sq, _, rfl, a, _, 2, _, rfl, rfl, (ha.same s1).sq, atI_nat (j := 2) rfl, wa, ov, rfl, .inr (hwa.same s1).sq, _, _, rfl, rfl, rfl, _, rfl, ?_⟩
            refine tst (fun e => ?_) fun _ => ?_
            · exfalso
              have : ((cv.length : Nat) : Int) = ((ov.length : Nat) : Int) + 1 := by omega
              rw [this] at e
              simp at e
            · show tCB (rAll K) (tCons (tLc (iTup K (tOp (rIxT K) (tVar 1) (tC (.int 1)))) (gName 2) tYes _ [2]) tNil) _ _ _
              refine all_tup2 (p := fun _ => true) (f := shD) (ts := c :: cs) (i := 1) (j := 2) (a := ca) (fun Q' q' => ⟨_, rfl, a, _, 1, _, rfl, rfl, (ha.same s1).sq, atI_nat (j := 1) rfl, q'⟩) (hca.same s1).sq (DdAll.same s1 hcd) (by omega) (fun _ => rfl) (fun v' t' H' Q' m s hd' q' => ?_) fun H2 s2 => ?_
              · have mk := many_kid (own := own) m
                refine ⟨_, rfl, _, rfl, p, v', t', r, rfl, p2, hd', hcs t' m, by omega, fun H3 s3 => ⟨_, rfl, tst (fun e => ?_) fun e => ?_⟩⟩
                · exact q' _ s3
                · exact ⟨_, rfl, _, rfl, p, v', t', rfl, p2, hd'.same s3, (hcs t' m).mono (by omega), e, by omega, fun H4 s4 => q' _ (s3.trans s4)⟩
              · rw [List.all_eq_true.mpr fun _ _ => rfl]
                exact q H2 (s1.trans s2)
end
end Sm
/-! facts_in, _law_told_facts. -/
namespace Sm
open PySem PySem.Spec PyProof.Rows L2 Vd RZ
theorem one_any {K : PySem.W.Frag} {H : Hp} {Q : VK} {a : Addr} {xs : List V} {i : Nat} (ha : TupN H a xs) (q : ∀ T H', Same H H' → TupN H' T ((xs.drop i).take 1) → Q (.ref T) H') : rSlA K (.ref a) (some (i : Int)) (some ((i : Int) + 1)) H Q := by
  refine ⟨a, xs, rfl, ha.sq, fun w => ?_, fun _ T nT => ?_⟩
  · rw [show ((i : Int) + 1) = ((i + 1 : Nat) : Int) by omega, HT.sIx_nat, HT.sIx_nat] at w
    obtain ⟨w1, w2⟩ := w
    refine q a H (Same.refl H) ?_
    have : (xs.drop i).take 1 = xs := by
      rcases Nat.eq_zero_or_pos xs.length with h0 | h0
      · rw [List.length_eq_zero_iff.mp h0, List.drop_nil, List.take_nil]
      · obtain rfl : i = 0 := by omega
        rw [List.drop_zero, List.take_of_length_le (by omega)]
    rw [this]
    exact ha
  · refine q T _ (same_up nT) (.inl ?_)
    rw [upd_same]
    congr 2
    unfold cutV
    rw [show ((i : Int) + 1) = ((i + 1 : Nat) : Int) by omega, HT.sIx_nat, HT.sIx_nat]
    rcases Nat.lt_or_ge i xs.length with h0 | h0
    · rw [show min i xs.length = i by omega, show min (i + 1) xs.length - i = 1 by omega]
    · rw [show min i xs.length = xs.length by omega, List.drop_of_length_le (Nat.le_refl _), List.drop_of_length_le h0]
      simp
section
variable {P : Program} {w : World} {K : PySem.W.Frag} {mg : Str → Option Value} {base : Heap}
theorem scFactsIn : FnScope ["showing", "told", "at", "child"] ["showing"] (defScope sFactsIn) := ⟨rfl, rfl, rfl, by decide +kernel, rfl, by decide +kernel, by decide +kernel⟩
def spFI (K : PySem.W.Frag) : Nat → Sp
  | 0 => fun _ _ _ _ => False
  | k + 1 => fun vs H Q _ => ∃ (p : Int) (v : V) (t : Tr), vs = [v] ∧ Dd K H v (shD t) ∧ ShOk p k t ∧ trMany t ≤ 3000 ∧ ∀ D ys H', Same H H' → H' D = some (.lst ys) → DdAll K H' ys (trFacts t) → Q (.ref D) H'
theorem ok_fi {f : Addr} {fd : FuncData} (F : FnP K "facts_in" sFactsIn f fd) (hm : mg "facts_in" = some (.ref f)) (hk : PySem.W.keepIn K (.ref f) = true) (hb : Binds K fd ["showing"] []) (M : Nm mg) (M2 : Nm2 mg) : ∀ k, FnOk P w K mg base CX0 k f fd ["showing"] (spFI K k)
  | 0 => ⟨fun vs H Q E h => h.elim, fun A outer s H args us vs Q E hr e0 hb' r h => h.elim⟩
  | n + 1 => by
    have DS : Df P w K mg base "facts_in" n ["showing"] (spFI K n) := ⟨f, fd, hm, hk, hb, ok_fi F hm hk hb M M2 n⟩
    refine F.ok scFactsIn (fun vs H Q E h => ?_) (fun cdv A outer s H vs Q E hr h => ?_)
    · obtain ⟨p, v, t, rfl, _⟩ := h
      rfl
    obtain ⟨p, v, t, rfl, hd, ht, zt, q⟩ := h
    refine ⟨_, PSs.nox (pss_cons (ps_if (pt_cmpR op_eq (pe_ix (r := rIxT K) ix_tup (pv 0) pe_int (fun _ _ => rfl)) pe_str (nomark _)) (pss_one (ps_ret (pe_lst pa_nil))) pss_nil)
      (pss_cons (ps_if (pt_cmpR op_eq (pe_ix (r := rIxT K) ix_tup (pv 0) pe_int (fun _ _ => rfl)) pe_str (nomark _)) (pss_one (ps_ret (pe_callTy (r := rLof K) call_lof (by rfl) M.list (by decide +kernel) (pa_cons (pe_ix (r := rIxT K) ix_tup (pv 0) pe_int (fun _ _ => rfl)) pa_nil)))) pss_nil)
      (pss_cons (ps_set (i := 1) scFactsIn.nd rfl (Or.inl rfl) (pe_lst pa_nil))
      (pss_cons (ps_for PassesOwn.never rfl (pi_enumT (by rfl) M2.enumerate (pa_cons (pe_ix (r := rIxT K) ix_tup (pv 0) pe_int (fun _ _ => rfl)) pa_nil)) (pg_tup rfl (pgs_cons (pg_name (i := 2) scFactsIn.nd rfl (Or.inl rfl)) (pgs_cons (pg_name (i := 3) scFactsIn.nd rfl (Or.inl rfl)) pgs_nil))) (pss_cons (ps_expr (pe_bm PySem.F.plainAttrs_list PySem.F.slot_list_extend PySem.F.type_list_extend mt_extend (pv 1) (pa_cons (pe_df DS hr (Nat.le_refl _) (pa_cons (pv 3) pa_nil)) pa_nil)))
      (pss_one (ps_expr (pe_bm PySem.F.plainAttrs_list PySem.F.slot_list_extend PySem.F.type_list_extend (mt_extendT) (pv 1) (pa_cons (pe_slice (r := rSlA K) sl_tupA (pe_ix (r := rIxT K) ix_tup (pv 0) pe_int (fun _ _ => rfl)) (po_some (pv 2)) (po_some (pe_op op_add (pv 2) pe_int))) pa_nil))))))
      (pss_one (ps_ret (pv 1))))))), ?_⟩
    rcases sh_cases ht with ⟨n0, m, rfl, _, _, es⟩ | ⟨own, rfl, hf, hr0, es⟩ | ⟨r, c, cs, own, rfl, hr1, hf, hne, hl, hro, hcs, es⟩
    · rw [es] at hd
      obtain ⟨a, xs, rfl, ha, h2⟩ := ofTup hd
      cases h2 with
      | cons g0 h2 =>
        cases g0
        refine ⟨_, rfl, a, _, 0, _, rfl, rfl, ha.sq, atI_nat (j := 0) rfl, rfl, _, rfl, iteT ?_⟩
        refine ⟨by rw [sizeLine_eq]; decide, fun L nL => q L [] _ (same_up nL) upd_same ?_⟩
        unfold trFacts
        exact .nil
    · rw [es] at hd
      have zo := many_own (cs := []) (own := own)
      obtain ⟨a, xs, rfl, ha, h2⟩ := ofTup hd
      cases h2 with
      | cons g0 h2 => cases h2 with
        | cons g1 h2 =>
          cases h2
          cases g0
          obtain ⟨wa, ov, rfl, hwa, hwd⟩ := ofTup g1
          refine ⟨_, rfl, a, _, 0, _, rfl, rfl, ha.sq, atI_nat (j := 0) rfl, rfl, _, rfl, iteF ?_⟩
          refine ⟨_, rfl, a, _, 0, _, rfl, rfl, ha.sq, atI_nat (j := 0) rfl, rfl, _, rfl, iteT ?_⟩
          exact ⟨_, rfl, a, _, 1, _, rfl, rfl, ha.sq, atI_nat (j := 1) rfl, wa, ov, rfl, .inr hwa.sq, fun L nL => q L ov _ (same_up nL) upd_same (DdAll.same (same_up nL) hwd)⟩
    · rw [es] at hd
      obtain ⟨n', rfl⟩ : ∃ n', n = n' + 1 := ⟨n - 1, by omega⟩
      have zo := many_own (cs := c :: cs) (own := own)
      have zf := trFacts_len (.mk (c :: cs) own)
      have kS := sh_key ht
      have kf := trFacts_key _ kS
      have kk : keyTs (shDs (c :: cs)) = true ∧ keyTs own = true := by simpa [shD, keyT, keyTs] using kS
      have e1 : trFacts (.mk (c :: cs) own) = trFs (c :: cs) own := by
        conv => lhs; unfold trFacts
        rfl
      rw [e1] at zf kf q
      obtain ⟨a, xs, rfl, ha, h2⟩ := ofTup hd
      cases h2 with
      | cons g0 h2 => cases h2 with
        | cons g1 h2 => cases h2 with
          | cons g2 h2 =>
            cases h2
            cases g0
            obtain ⟨ca, cv, rfl, hca, hcd⟩ := ofTup g1
            obtain ⟨wa, ov, rfl, hwa, hwd⟩ := ofTup g2
            have lcv := dall_len hcd
            rw [List.length_map] at lcv
            have lov := dall_len hwd
            refine ⟨_, rfl, a, _, 0, _, rfl, rfl, ha.sq, atI_nat (j := 0) rfl, rfl, _, rfl, iteF ?_⟩
            refine ⟨_, rfl, a, _, 0, _, rfl, rfl, ha.sq, atI_nat (j := 0) rfl, rfl, _, rfl, iteF ?_⟩
            refine ⟨by rw [sizeLine_eq]; decide, fun L nL => ?_⟩
            have s1 : Same H (upd H L (.lst [])) := same_up nL
            have e2 : upd H L (.lst []) L = some (.lst []) := upd_same
            generalize upd H L (.lst []) = H1 at s1 e2 ⊢
            refine ⟨_, rfl, a, _, 1, _, rfl, rfl, (ha.same s1).sq, atI_nat (j := 1) rfl, ca, cv, rfl, (hca.same s1).sq, ?_⟩
            have pre_len : ∀ i, (trFs ((c :: cs).take i) own).length ≤ 3000 := fun i => by
              have h := trFs_len ((c :: cs).take i) own
              have h2 : trManys ((c :: cs).take i) ≤ trManys (c :: cs) := manys_take _ _
              have e : trMany (.mk (c :: cs) own) = own.length + trManys (c :: cs) := by
                conv => lhs; unfold trMany
              omega
            have pre_key : ∀ i, keyTs (trFs ((c :: cs).take i) own) = true := fun i => trFs_key _ _ (by
              rw [shDs_map]
              refine keyTs_all.mpr fun z hz => ?_
              obtain ⟨u, hu, rfl⟩ := List.mem_map.mp hz
              exact sh_key (hcs u (List.mem_of_mem_take hu))) kk.2
            refine for_enumT (xs := cv) (fun i σ H' => Same H H' ∧ (∃ z1 z2, σ = [some (.ref a), some (.ref L), z1, z2]) ∧ ∃ ys, H' L = some (.lst ys) ∧ DdAll K H' ys (trFs ((c :: cs).take i) own))
              ⟨s1, ⟨none, none, rfl⟩, [], e2, by rw [List.take_zero]; unfold trFs; exact .nil⟩ (fun i σ H' z => (hca.same z.1).sq) (fun i x T σ H' hx z nT => ?_) (fun σ H' z => ?_)
            · obtain ⟨s2, ⟨z1, z2, rfl⟩, ys, hL, hys⟩ := z
              obtain ⟨dd, hd1, hd2⟩ := dall_at' hcd hx
              rw [List.getElem?_map] at hd1
              obtain ⟨t, ht1, rfl⟩ := Option.map_eq_some_iff.mp hd1
              have tm := List.mem_of_getElem? ht1
              have il := (List.getElem?_eq_some_iff.mp ht1).1
              have mk := many_kid (own := own) tm
              have sT : Same H' (upd H' T (.tup [V.int (i : Nat), x])) := same_up nT
              have s3 := s2.trans sT
              have hL3 := sT _ _ hL
              have hys3 := DdAll.same sT hys
              refine ⟨T, _, rfl, .inl (.inl upd_same), rfl, .int (i : Nat), [x], rfl, x, [], rfl, rfl, ?_⟩
              generalize upd H' T (.tup [V.int (i : Nat), x]) = H3 at s3 hL3 hys3 ⊢
              refine ⟨.ref L, rfl, .inl ⟨rfl, _, SqL.of hL3⟩, _, rfl, p, x, t, rfl, hd2.same s3, (hcs t tm).mono (by omega), by omega, fun D ds' H4 s4 hD hds => ?_⟩
              have hL4 := s4 _ _ hL3
              have hys4 := DdAll.same s4 hys3
              have s34 := s3.trans s4
              have l1 := ddAll_len hys4
              have l2 := ddAll_len hds
              have l3 := pre_len i
              have l4 := trFacts_len t
              refine ⟨L, D, ys, ds', rfl, rfl, hL4, hD, by rw [sizeLine_eq]; omega, ?_⟩
              have kt5 : Kt 0 H4 (upd H4 L (.lst (ys ++ ds'))) := kt_upd hL4 (fun e => e)
              have s5 : Same H (upd H4 L (.lst (ys ++ ds'))) := same_updN s34 nL
              have hL5 : upd H4 L (.lst (ys ++ ds')) L = some (.lst (ys ++ ds')) := upd_same
              have kt : keyTs (trFs ((c :: cs).take i) own ++ trFacts t) = true := keyTs_all.mpr fun z hz => by
                rcases List.mem_append.mp hz with hz | hz
                · exact keyTs_mem (pre_key i) hz
                · exact keyTs_mem (trFacts_key t (sh_key (hcs t tm))) hz
              have hys5 : DdAll K (upd H4 L (.lst (ys ++ ds'))) (ys ++ ds') (trFs ((c :: cs).take i) own ++ trFacts t) := dds_kt kt5 kt (dall_app hys4 hds)
              generalize upd H4 L (.lst (ys ++ ds')) = H5 at s5 hL5 hys5 ⊢
              refine ⟨.ref L, rfl, .inl ⟨rfl, _, SqL.of hL5⟩, _, rfl, a, _, 2, _, rfl, rfl, (ha.same s5).sq, atI_nat (j := 2) rfl, _, rfl, _, rfl, _, rfl, _, _, rfl, rfl, _, rfl, one_any (i := i) (hwa.same s5) fun T2 H6 s6 hT2 => ?_⟩
              have hL6 := s6 _ _ hL5
              have hys6 := DdAll.same s6 hys5
              have s56 := s5.trans s6
              have l6 := ddAll_len hys6
              have l7 : (trFs ((c :: cs).take i) own ++ trFacts t).length = (trFs ((c :: cs).take i) own).length + (trFacts t).length := List.length_append
              refine ⟨L, T2, _, _, rfl, rfl, hL6, hT2.sq, by rw [sizeLine_eq, List.length_take]; omega, same_updN s56 nL, ⟨_, _, rfl⟩, _, upd_same, ?_⟩
              have kt7 : Kt 0 H6 (upd H6 L (.lst ((ys ++ ds') ++ (ov.drop i).take 1))) := kt_upd hL6 (fun e => e)
              have st := trFs_step (c :: cs) own i t ht1
              have pk := pre_key (i + 1)
              rw [st] at pk ⊢
              rw [← List.append_assoc] at pk ⊢
              exact dds_kt kt7 pk (dall_app hys6 (dall_take _ (dall_drop _ (DdAll.same s56 hwd))))
            · obtain ⟨s2, ⟨z1, z2, rfl⟩, ys, hL, hys⟩ := z
              rw [List.take_of_length_le (by omega)] at hys
              exact ⟨_, rfl, q L ys H' s2 hL hys⟩
end
end Sm
/-! Cut.__init__, part_in. -/
namespace Sm
open PySem PySem.Spec PyProof.Rows L2 Vd RZ
theorem make_same {H H' : Hp} {x dx CT : Addr} (nx : H x = none) (ndx : H dx = none) (k : Keep x (upd (upd H dx (.own x)) x (.ins CT dx [])) H') : Same H H' := fun b o e => by
  have n : b ≠ x := ne_of_none e nx
  refine k b o n ?_
  rw [upd_ne n, upd_ne (ne_of_none e ndx)]
  exact e
section
variable {P : Program} {w : World} {K : PySem.W.Frag} {mg : Str → Option Value} {base : Heap}
theorem scCInit : FnScope ["self", "number", "many"] ["self", "number", "many"] (defScope sCInit) := ⟨rfl, rfl, rfl, by decide +kernel, rfl, by decide +kernel, by decide +kernel⟩
def spCInit (K : PySem.W.Frag) : Sp := fun vs H Q _ => ∃ (c dx : Addr) (n m : Int), vs = [.ref c, .int n, .int m] ∧ H c = some (.ins (He.ga K "Cut") dx []) ∧ CutK K ∧ ∀ H', Keep c H H' → H' c = some (.ins (He.ga K "Cut") dx [("number", .int n), ("many", .int m)]) → Q .non H'
theorem ok_cinit {f : Addr} {fd : FuncData} (F : FunD K "__init__" "Cut.__init__" (defArgs sCInit) (defBody sCInit) (defScope sCInit) [] [] f fd) : FnOk P w K mg base CX0 1 f fd ["self", "number", "many"] (spCInit K) := by
  refine F.ok scCInit (fun vs H Q E h => ?_) (fun cdv A outer s H vs Q E hr h => ?_)
  · obtain ⟨c, dx, n, m, rfl, _⟩ := h
    rfl
  obtain ⟨c, dx, n, m, rfl, hc, hU, q⟩ := h
  refine ⟨_, PSs.nox (pss_cons (ps_fld (pv 0) (pv 1) (by rfl))
      (pss_one (ps_fld (pv 0) (pv 2) (by rfl)))), ?_⟩
  exact ⟨_, rfl, .ref c, rfl, c, _, dx, _, rfl, hc, hU.c, hU.n, by decide, _, rfl, .ref c, rfl, c, _, dx, _, rfl, upd_same, hU.c, hU.m, (show 1 < 1000 by decide), q _ ((Keep.refl.upd).upd) upd_same⟩
structure CuMk (P : Program) (w : World) (K : PySem.W.Frag) (mg : Str → Option Value) (base : Heap) (f : Addr) (fd : FuncData) : Prop where
  M : Mk K (He.ga K "Cut") f
  F : FnOk P w K mg base CX0 1 f fd ["self", "number", "many"] (spCInit K)
  hm : mg "Cut" = some (.ref (He.ga K "Cut"))
  hb : Binds K fd ["self", "number", "many"] []
/-- what isinstance asks of an instance's class -/
structure InsC (K : PySem.W.Frag) (C : Addr) : Prop where
  ca : PySem.W.findIn K (.ref C) "__class__" = some (some (.builtin "object.__class__"))
  cn : PySem.W.specialIn K (.builtin "object.__class__") "__get__" = some (some (.builtin "getset_descriptor.__get__"))
  ct : PySem.W.takesIn K (.builtin "object.__class__") = some true
  cm : PySem.W.mroIn K C (.type "object") = some true
theorem InsC.ty {C t dx : Addr} {fs : List (Str × V)} {H : Hp} (h : InsC K C) (c : Cls K C) (e : H t = some (.ins C dx fs)) : TyX K H (.ref t) (.ref C) := .base (.ins e c h.ca h.cn h.ct h.cm)
/-- what the tests of isinstance(.., Cut) lean on -/
structure CutIs (K : PySem.W.Frag) (CP : Addr) : Prop where
  p : InsC K CP
  c : InsC K (He.ga K "Cut")
  no : PySem.W.kitOne K (.ref CP) (.ref (He.ga K "Cut")) = some false
theorem dall_split {H : Hp} : ∀ {es fs : List PyData} {xs : List V}, DdAll K H xs (es ++ fs) → ∃ x1 x2, xs = x1 ++ x2 ∧ DdAll K H x1 es ∧ DdAll K H x2 fs
  | [], fs, xs, h => ⟨[], xs, rfl, .nil, h⟩
  | e :: es, fs, xs, h => by
    cases h with
    | cons h1 h2 =>
      obtain ⟨x1, x2, rfl, k1, k2⟩ := dall_split h2
      exact ⟨_ :: x1, x2, rfl, .cons h1 k1, k2⟩
/-- a cut, or what has own facts -/
theorem mk_cases {p : Int} {k : Nat} {t : Tr} (h : ShOk p k t) : (∃ n m, t = .cut n m ∧ shD t = .tuple [.str "cut", .int n, .int (m : Int)]) ∨
    ∃ (cs : List Tr) (own : List PyData) (lab : Str) (mid : List PyData), t = .mk cs own ∧ FactL own ∧ ((lab = ("leaf" : Str) ∧ cs = []) ∨ (lab = ("node" : Str) ∧ cs ≠ [])) ∧ mid = (if cs.isEmpty = true then [] else [.tuple (cs.map shD)]) ∧ (cs.isEmpty = false → own ≠ []) ∧ cs.length ≤ own.length + 1 ∧
      (∃ r : Nat, (cs.isEmpty = true → r = 0) ∧ (cs.isEmpty = false → 0 < r) ∧ (∀ d ∈ own, rkP p d = r) ∧ ∀ t ∈ cs, ∃ r', r' < r ∧ ShOk p r' t) ∧ (∀ t ∈ cs, ShOk p (k - 1) t ∧ 0 < k) ∧ shD t = .tuple ([.str lab] ++ (mid ++ [.tuple own])) := by
  rcases sh_cases h with ⟨n0, m, rfl, _, _, es⟩ | ⟨own, rfl, hf, hr0, es⟩ | ⟨r, c, cs, own, rfl, hr1, hf, hne, hl, hro, hcs, es⟩
  · exact .inl ⟨n0, m, rfl, es⟩
  · refine .inr ⟨[], own, "leaf", [], rfl, hf, .inl ⟨rfl, rfl⟩, rfl, (fun e => by cases e), (by simp), ⟨0, fun _ => rfl, (fun e => by cases e), hr0, (fun t ht => by cases ht)⟩, (fun t ht => by cases ht), es⟩
  · refine .inr ⟨c :: cs, own, "node", _, rfl, hf, .inr ⟨rfl, by simp⟩, rfl, fun _ => hne, (by omega), ⟨r + 1, (fun e => by cases e), (fun _ => by omega), hro, fun t ht => ⟨r, by omega, hcs t ht⟩⟩, fun t ht => ⟨(hcs t ht).mono (by omega), by omega⟩, es⟩
theorem scPartIn : FnScope ["p", "showing", "children", "part", "ranks", "child", "fact", "number", "rank"] ["p", "showing"] (defScope sPartIn) := ⟨rfl, rfl, rfl, by decide +kernel, rfl, by decide +kernel, by decide +kernel⟩
def spPartIn (CP : Addr) (p : Int) (K : PySem.W.Frag) : Nat → Sp
  | 0 => fun _ _ _ _ => False
  | k + 1 => fun vs H Q _ => ∃ (v : V) (t : Tr), vs = [.int p, v] ∧ 1 < p ∧ p ≤ 170141183460469231731687303715884105728 ∧ Dd K H v (shD t) ∧ ShOk p k t ∧ trMany t ≤ 3000 ∧ ∀ a H', Same H H' → PartAt CP p K H' a t → Q (.ref a) H'
theorem ok_partin {CP : Addr} {p : Int} {f f0 f1 : Addr} {fd fd0 fd1 : FuncData} (F : FnP K "part_in" sPartIn f fd) (hm : mg "part_in" = some (.ref f)) (hk : PySem.W.keepIn K (.ref f) = true) (hb : Binds K fd ["p", "showing"] []) (M : Nm mg) (M2 : Nm2 mg) (PM : PMk P w K mg base CP p f0 fd0) (CM : CuMk P w K mg base f1 fd1) (DRk : Df P w K mg base "rank_of" 1 ["number"] spRank) (DMx : Df P w K mg base "mixed" 1 ["p", "text"] spMix) (DTx : Df P w K mg base "text_of" 2 ["fact"] (spText K))
    (hC : Cls K CP) (hNo : ∀ f ∈ (["children", "own", "numbers", "rank", "many", "number"] : List Str), NoAttr K CP f) (hU : CutK K) (hI : CutIs K CP) : ∀ k, FnOk P w K mg base CX0 (5 + k) f fd ["p", "showing"] (spPartIn CP p K k)
  | 0 => ⟨fun vs H Q E h => h.elim, fun A outer s H args us vs Q E hr e0 hb' r h => h.elim⟩
  | n + 1 => by
    have DS : Df P w K mg base "part_in" (5 + n) ["p", "showing"] (spPartIn CP p K n) := ⟨f, fd, hm, hk, hb, ok_partin F hm hk hb M M2 PM CM DRk DMx DTx hC hNo hU hI n⟩
    refine F.ok scPartIn (fun vs H Q E h => ?_) (fun cdv A outer s H vs Q E hr h => ?_)
    · obtain ⟨v, t, rfl, _⟩ := h
      rfl
    obtain ⟨v, t, rfl, p1, p2, hd, ht, zt, q⟩ := h
    refine ⟨_, PSs.nox (pss_cons (ps_if (pt_cmpR op_eq (pe_ix (r := rIxT K) ix_tup (pv 1) pe_int (fun _ _ => rfl)) pe_str (nomark _)) (pss_one (ps_ret (pe_make CM.M CM.F (hr.mono (le5 (by decide))) (by rfl) CM.hm CM.hb .nil pass0 (pa_cons (pe_ix (r := rIxT K) ix_tup (pv 1) pe_int (fun _ _ => rfl)) (pa_cons (pe_ix (r := rIxT K) ix_tup (pv 1) pe_int (fun _ _ => rfl)) pa_nil))))) pss_nil)
      (pss_cons (ps_set (i := 2) scPartIn.nd rfl (Or.inl rfl) (pe_lst pa_nil))
      (C8.pss_cut (ps_if (pt_cmpR op_eq (pe_ix (r := rIxT K) ix_tup (pv 1) pe_int (fun _ _ => rfl)) pe_str (nomark _)) (pss_one (ps_setLc (i := 2) (own := [("child", 5)]) (g := gName 5) (tt := tYes) rfl scPartIn.nd rfl rfl (sw_true rfl rfl rfl (by decide +kernel)) (pi_tup (pe_ix (r := rIxT K) ix_tup (pv 1) pe_int (fun _ _ => rfl))) (blkOk_by (N := ["p", "showing", "children", "part", "ranks", "child", "fact", "number", "rank"]) (sc := defScope sPartIn) (by decide +kernel)) (fun _ _ _ _ _ => pg_name (i := 5) scPartIn.nd rfl (Or.inl rfl)) (fun _ _ _ _ _ => pts_nil) (fun _ _ _ _ _ => (pe_df DS hr (Nat.le_refl _) (pa_cons (pv 0) (pa_cons (pv 5) pa_nil)))))) pss_nil)
      (pss_cons (ps_set (i := 3) scPartIn.nd rfl (Or.inr rfl) (pe_make PM.M PM.F (hr.mono (le5 (by decide))) (by rfl) PM.hm PM.hb .nil pass0 (pa_cons (pv 0) (pa_cons (pv 2) (pa_cons (pe_lc (own := [("fact", 6)]) (g := gName 6) (tt := tYes) (by rfl) scPartIn.nd (pi_tup (pe_ix (r := rIxT K) ix_tup (pv 1) (pe_un un_neg pe_int) (fun _ _ => rfl))) (blkOk_by (N := ["p", "showing", "children", "part", "ranks", "child", "fact", "number", "rank"]) (sc := defScope sPartIn) (by decide +kernel)) (fun _ _ _ _ _ => pg_name (i := 6) scPartIn.nd rfl (Or.inl rfl)) (fun _ _ _ _ _ => pts_nil) (fun _ _ _ _ _ => (pe_tup (pa_cons (pv 6) (pa_cons (pe_df DMx hr (le5 (by decide)) (pa_cons (pv 0) (pa_cons (pe_df DTx hr (le5 (by decide)) (pa_cons (pv 6) pa_nil)) pa_nil))) pa_nil))))) pa_nil)))))
      (pss_cons (ps_setLc (i := 4) (own := [("number", 7)]) (g := gName 7) (tt := tYes) rfl scPartIn.nd rfl rfl (sw_true rfl rfl rfl (by decide +kernel)) (pi_tup (pe_fld (pv 3) (by rfl))) (blkOk_by (N := ["p", "showing", "children", "part", "ranks", "child", "fact", "number", "rank"]) (sc := defScope sPartIn) (by decide +kernel)) (fun _ _ _ _ _ => pg_name (i := 7) scPartIn.nd rfl (Or.inl rfl)) (fun _ _ _ _ _ => pts_nil) (fun _ _ _ _ _ => (pe_df DRk hr (le5 (by decide)) (pa_cons (pv 7) pa_nil))))
      (pss_cons (ps_if (PW.pt (pw_or (pt_not (pt_val (pe_callB (r := rAll K) (cr_all rfl) (by rfl) M.all (by decide +kernel) (pa_cons (pe_lc (own := [("rank", 8)]) (g := gName 8) (tt := tYes) (te := tOp rEq (tVar 8) (tFld K (tVar 3) "rank")) (by rfl) scPartIn.nd (pi_list (pv 4)) (blkOk_by (N := ["p", "showing", "children", "part", "ranks", "child", "fact", "number", "rank"]) (sc := defScope sPartIn) (by decide +kernel)) (fun _ _ _ _ _ => pg_name (i := 8) scPartIn.nd rfl (Or.inl rfl)) (fun _ _ _ _ _ => pts_nil) (fun _ _ _ _ _ => (pe_cmpR op_eq (pv 8) (pe_fld (pv 3) (by rfl)) (nomark _)))) pa_nil)))) (pw_or1 (PW.pt (pw_and (pt_truth (pv 2) (fun _ => rfl)) (pw_and1 (pt_cmpR op_eq (pe_fld (pv 3) (by rfl)) pe_int (nomark _)))))))) (pss_one (ps_never)) pss_nil)
      (pss_cons (ps_if (pt_not (pt_val (pe_callB (r := rAll K) (cr_all rfl) (by rfl) M.all (by decide +kernel) (pa_cons (pe_lc (own := [("child", 5)]) (g := gName 5) (tt := tYes) (te := tOrV (tCB (rIsi K) (tCons (tVar 5) (tCons (tC (.ref (He.ga K "Cut"))) tNil))) (tOp (rI0 fun i j => .bl (decide (i < j))) (tFld K (tVar 5) "rank") (tFld K (tVar 3) "rank"))) (by rfl) scPartIn.nd (pi_list (pv 2)) (blkOk_by (N := ["p", "showing", "children", "part", "ranks", "child", "fact", "number", "rank"]) (sc := defScope sPartIn) (by decide +kernel)) (fun _ _ _ _ _ => pg_name (i := 5) scPartIn.nd rfl (Or.inl rfl)) (fun _ _ _ _ _ => pts_nil) (fun _ _ _ _ _ => (pe_or (pe_callB (id := "isinstance") (r := rIsi K) call_isi (by rfl) M.isinstance (by decide +kernel) (pa_cons (pv 5) (pa_cons (pe_glob (v := .ref (He.ga K "Cut")) (by rfl) CM.hm rfl) pa_nil))) (pe_one (pe_cmpR op_lt (pe_fld (pv 5) (by rfl)) (pe_fld (pv 3) (by rfl)) (nomark _)))))) pa_nil)))) (pss_one (ps_never)) pss_nil)
      (pss_one (ps_ret (pv 3)))))))))), ?_⟩
    rcases mk_cases ht with ⟨n0, m, rfl, es⟩ | ⟨cs, own, lab, mid, rfl, hf, hlab, hmid, hne, hl, ⟨r, hro⟩, hcs, es⟩
    · rw [es] at hd
      obtain ⟨a, xs, rfl, ha, h2⟩ := ofTup hd
      cases h2 with
      | cons g0 h2 => cases h2 with
        | cons g1 h2 => cases h2 with
          | cons g2 h2 =>
            cases h2
            cases g0
            cases g1
            cases g2
            refine ⟨_, rfl, a, _, 0, _, rfl, rfl, ha.sq, atI_nat (j := 0) rfl, rfl, _, rfl, iteT ?_⟩
            refine ⟨_, rfl, a, _, 1, _, rfl, rfl, ha.sq, atI_nat (j := 1) rfl, _, rfl, a, _, 2, _, rfl, rfl, ha.sq, atI_nat (j := 2) rfl, fun x dx nx ndx ne => ?_⟩
            refine ⟨x, dx, n0, (m : Int), rfl, upd_same, hU, fun H' k e => ⟨rfl, q x H' ?_ ?_⟩⟩
            · exact make_same nx ndx k
            · unfold PartAt
              exact ⟨dx, e⟩
    · have zo := many_own (cs := cs) (own := own)
      have kown : keyTs own = true := (facts_dp hf).1
      have hko : KidsOk p cs := fun u hu => by
        have h1 := sh_num p1 (hcs u hu).1
        have h2 := many_kid (own := own) hu
        exact ⟨by omega, by omega⟩
      rw [es] at hd
      obtain ⟨a, xs, rfl, ha, h2⟩ := ofTup hd
      obtain ⟨mv, wa, ov, rfl, hwa, hwd, hmv⟩ : ∃ mv wa ov, xs = V.str lab :: (mv ++ [.ref wa]) ∧ TupN H wa ov ∧ DdAll K H ov own ∧ DdAll K H mv mid := by
        obtain ⟨m0, m12, rfl, k0, k12⟩ := dall_split (es := [.str lab]) h2
        obtain ⟨m1, m2, rfl, k1, k2⟩ := dall_split k12
        cases k0 with
        | cons g0 g1 =>
          cases g0
          cases g1
          cases k2 with
          | cons k3 k4 =>
            cases k4
            obtain ⟨wa, ov, rfl, e1, e2⟩ := ofTup k3
            exact ⟨m1, wa, ov, rfl, e1, e2, k1⟩
      have lov := dall_len hwd
      refine ⟨_, rfl, a, _, 0, _, rfl, rfl, ha.sq, atI_nat (j := 0) rfl, rfl, _, rfl, ?_⟩
      have ncut : decide (V.str lab = V.str "cut") = false := by
        rcases hlab with ⟨rfl, _⟩ | ⟨rfl, _⟩ <;> decide
      rw [ncut]
      refine iteF ?_
      refine ⟨by rw [sizeLine_eq]; decide, fun L0 nL0 => ?_⟩
      refine ⟨fun σ H' => Same H H' ∧ ∃ (LC : Addr) (ks : List Addr) (z5 : Option V), σ = [some (.int p), some (.ref a), some (.ref LC), none, none, z5, none, none, none] ∧ H' LC = some (.lst (ks.map V.ref)) ∧ PartsAt CP p K H' ks cs, ?_, fun σ H1 z => ?_⟩
      · have s0 : Same H (upd H L0 (.lst [])) := same_up nL0
        have e0 : upd H L0 (.lst []) L0 = some (.lst []) := upd_same
        generalize upd H L0 (.lst []) = H1 at s0 e0 ⊢
        refine ⟨_, rfl, a, _, 0, _, rfl, rfl, (ha.same s0).sq, atI_nat (j := 0) rfl, rfl, _, rfl, ?_⟩
        rcases hlab with ⟨rfl, rfl⟩ | ⟨rfl, hcne⟩
        · exact iteF ⟨s0, L0, [], none, rfl, e0, by unfold PartsAt; rfl⟩
        · have ce : cs.isEmpty = false := by
            cases cs with
            | nil => exact absurd rfl hcne
            | cons _ _ => rfl
          rw [ce, if_neg Bool.false_ne_true] at hmid
          subst hmid
          obtain ⟨ca, cv, rfl, hca, hcd⟩ : ∃ ca cv, mv = [V.ref ca] ∧ TupN H ca cv ∧ DdAll K H cv (cs.map shD) := by
            cases hmv with
            | cons k1 k2 =>
              cases k2
              obtain ⟨ca, cv, rfl, e1, e2⟩ := ofTup k1
              exact ⟨ca, cv, rfl, e1, e2⟩
          have lcv := dall_len hcd
          rw [List.length_map] at lcv
          refine iteT ?_
          refine ⟨_, rfl, a, _, 1, .ref ca, rfl, rfl, (ha.same s0).sq, atI_nat (j := 1) rfl, ca, rfl, ⟨_, (hca.same s0).sq⟩, fun D hD => ?_⟩
          refine lc_tup (xs := cv) (fun i H' => Same H1 H' ∧ ∃ ks : List Addr, H' D = some (.lst (ks.map V.ref)) ∧ PartsAt CP p K H' ks (cs.take i)) ⟨same_up hD, [], upd_same, by rw [List.take_zero]; unfold PartsAt; rfl⟩ (fun i H' _ e => ((hca.same s0).same e.1).sq) (fun i x H' hx e => ?_) (fun H2 e => ?_)
          · obtain ⟨s2, ks, hy, hks⟩ := e
            obtain ⟨dd, hd1, hd2⟩ := dall_at' hcd hx
            rw [List.getElem?_map] at hd1
            obtain ⟨u, hu1, rfl⟩ := Option.map_eq_some_iff.mp hd1
            have um := List.mem_of_getElem? hu1
            have il := (List.getElem?_eq_some_iff.mp hu1).1
            obtain ⟨hu2, hu3⟩ := hcs u um
            have h2 := many_kid (own := own) um
            obtain ⟨n', rfl⟩ : ∃ n', n = n' + 1 := ⟨n - 1, by omega⟩
            refine ⟨rfl, _, rfl, _, rfl, x, u, rfl, p1, p2, (hd2.same s0).same s2, hu2, by omega, fun b H3 s3 hb => ⟨_, s3 _ _ hy, ?_, same_updN (s2.trans s3) hD, ks ++ [b], ?_, ?_⟩⟩
            · have := parts_len hks
              rw [List.length_take] at this
              rw [List.length_map, sizeLine_eq]
              omega
            · rw [upd_same, List.map_append]
              rfl
            · have kD : Kt CP H3 (upd H3 D (.lst (ks.map V.ref ++ [V.ref b]))) := kt_upd (s3 _ _ hy) (fun e => e)
              rw [take_snoc hu1]
              refine parts_app ((hks.kt (kt_same s3)).kt kD) ?_
              unfold PartsAt
              exact ⟨b, [], rfl, hb.kt kD, by unfold PartsAt; rfl⟩
          · obtain ⟨s2, ks, hy, hks⟩ := e
            rw [List.take_of_length_le (by omega)] at hks
            exact ⟨s0.trans s2, D, ks, _, rfl, hy, hks⟩
      · obtain ⟨s1, LC, ks, z5, rfl, hLC, hks⟩ := z
        have lks := parts_len hks
        have ixl : atI (V.str lab :: (mv ++ [V.ref wa])) (-1) = some (V.ref wa) := by
          unfold atI ixN
          simp
          rw [if_pos (by omega)]
          show (V.str lab :: (mv ++ [V.ref wa]))[(-1 + ((mv.length : Int) + 1 + 1)).toNat]? = _
          rw [show (-1 + ((mv.length : Int) + 1 + 1)).toNat = mv.length + 1 by omega]
          simp
        refine ⟨_, rfl, _, rfl, _, rfl, 1, rfl, a, _, -1, _, rfl, rfl, (ha.same s1).sq, ixl, wa, rfl, ⟨_, (hwa.same s1).sq⟩, fun D hD => ?_⟩
        refine lc_tup (xs := ov) (fun i H' => Same H1 H' ∧ ∃ ys, H' D = some (.lst ys) ∧ DdAll K H' ys ((own.take i).map (prD p))) ⟨same_up hD, [], upd_same, .nil⟩ (fun i H' _ e => ((hwa.same s1).same e.1).sq) (fun i x H' hx e => ?_) (fun H2 e => ?_)
        · obtain ⟨s2, ys, hy, hys⟩ := e
          obtain ⟨d, hd1, hd2⟩ := dall_at' hwd hx
          have dm := List.mem_of_getElem? hd1
          have il := (List.getElem?_eq_some_iff.mp hd1).1
          have hfd := hf d dm
          have hdd := (hd2.same s1).same s2
          refine ⟨rfl, _, rfl, _, rfl, _, rfl, x, d, rfl, hdd, hfd.1, hfd.2, fun H3 s3 => ⟨p, ftext d, rfl, by omega, p2, ftext_sml hfd.1 hfd.2, by rw [sizeLine_eq]; exact (by decide : 2 ≤ 16777216), fun T nT => ⟨ys, ?_, ?_, ?_, ys ++ [.ref T], upd_same, ?_⟩⟩⟩
          · exact same_up nT _ _ (s3 _ _ hy)
          · have := ddAll_len hys
            rw [List.length_map, List.length_take] at this
            rw [sizeLine_eq]
            omega
          · exact same_updN ((s2.trans s3).trans (same_up nT)) hD
          · have hy4 := same_up (o := .tup [x, V.int (nmF p d)]) nT _ _ (s3 _ _ hy)
            have kD := kt_upd (CP := 0) (u := .lst (ys ++ [V.ref T])) hy4 (fun e => e)
            rw [take_snoc hd1, List.map_append]
            refine dds_kt kD ?_ (ddAll_snoc (DdAll.same (s3.trans (same_up nT)) hys) ?_)
            · have h := prD_keys (p := p) (own := own.take i ++ [d]) (keyTs_all.mpr fun z hz => by
                rw [← take_snoc hd1] at hz
                exact keyTs_mem kown (List.mem_of_mem_take hz))
              rw [List.map_append] at h
              exact h
            · exact .tup (.inl upd_same) (.cons (hdd.same (s3.trans (same_up nT))) (.cons (.int _) .nil))
        · obtain ⟨s2, gs, hy, hgs⟩ := e
          rw [lov, List.take_of_length_le (Nat.le_refl _)] at hgs
          have hLC2 := s2 _ _ hLC
          refine fun x dx nx ndx ne => ?_
          have s3 : Same H2 (upd (upd H2 dx (.own x)) x (.ins CP dx [])) := Same.trans (same_up ndx) (same_up (by rw [upd_ne (Ne.symm ne)]; exact nx))
          have nn : ∀ b o, H2 b = some o → b ≠ x := fun b o hb e => by
            rw [e, nx] at hb
            cases hb
          refine ⟨x, dx, LC, D, ks, cs, own, gs, rfl, upd_same, hC, hNo, nn _ _ hLC2, nn _ _ hy, SqL.of (s3 _ _ hLC2), hks.kt (kt_same (s2.trans s3)), SqL.of (s3 _ _ hy), DdAll.same s3 hgs, kown, by omega, by omega, hne, p1, p2, hko, fun H3 k3 part => ⟨rfl, ?_⟩⟩
          have s23 : Same H2 H3 := make_same nx ndx k3
          have sH : Same H H3 := (s1.trans s2).trans s23
          have hLC3 := s23 _ _ hLC2
          have hks3 := hks.kt (kt_same (s2.trans s23))
          have hR : (if cs.isEmpty = true then (0 : Int) else (rkI ((own.map (nmF p)).headD 0) : Int)) = (r : Int) := by
            cases hce : cs.isEmpty with
            | true => rw [if_pos rfl, hro.1 hce]; rfl
            | false =>
              rw [if_neg Bool.false_ne_true]
              cases own with
              | nil => exact absurd rfl (hne hce)
              | cons d ds =>
                have := hro.2.2.1 d List.mem_cons_self
                unfold rkP at this
                rw [← this]
                rfl
          have part0 := part
          unfold PartAt at part
          obtain ⟨_, dx', c', o', n', ks', h1, h2', h3', h4', h5⟩ := part
          refine ⟨.ref x, rfl, x, CP, dx', _, .ref n', rfl, h1, hC, hNo _ (by simp), rfl, n', rfl, ⟨_, h5.sq⟩, fun D2 hD2 => ?_⟩
          refine lc_tup (xs := (own.map (nmF p)).map V.int) (fun i H' => Same H3 H' ∧ H' D2 = some (.lst (((own.map fun d => (rkI (nmF p d) : Int)).take i).map V.int))) ⟨same_up hD2, upd_same⟩ (fun i H' _ e => (h5.same e.1).sq) (fun i x' H' hx e => ?_) (fun H4 e => ?_)
          · obtain ⟨s4, hy2⟩ := e
            rw [List.map_map, List.getElem?_map] at hx
            obtain ⟨d, hd1, rfl⟩ := Option.map_eq_some_iff.mp hx
            refine ⟨rfl, _, rfl, nmF p d, rfl, _, hy2, ?_, same_updN s4 hD2, ?_⟩
            · rw [List.length_map, List.length_take, List.length_map, sizeLine_eq]
              omega
            · rw [upd_same, take_snoc (xs := own.map fun d => (rkI (nmF p d) : Int)) (x := (rkI (nmF p d) : Int)) (by rw [List.getElem?_map, hd1]; rfl), List.map_append]
              rfl
          obtain ⟨s4, hy2⟩ := e
          rw [List.take_of_length_le (by rw [List.length_map, List.length_map, List.length_map]; exact Nat.le_refl _)] at hy2
          refine ⟨.ref D2, rfl, D2, rfl, ⟨_, SqL.of hy2⟩, fun D3 hD3 => ?_⟩
          refine lc_list (xs := (own.map fun d => (rkI (nmF p d) : Int)).map V.int) (fun i H' => Same H4 H' ∧ H' D3 = some (.lst ((own.take i).map fun _ => V.bl true))) ⟨same_up hD3, upd_same⟩ (fun i H' _ e => Same.seq e.1 (SqL.of hy2)) (fun i x' H' hx e => ?_) (fun H5 e => ?_)
          · obtain ⟨s5, hy3⟩ := e
            rw [List.map_map, List.getElem?_map] at hx
            obtain ⟨d, hd1, rfl⟩ := Option.map_eq_some_iff.mp hx
            refine ⟨rfl, ?_⟩
            show ∃ v, _ ∧ _
            refine ⟨_, rfl, .ref x, rfl, x, CP, dx', _, .int (r : Int), rfl, s5 _ _ (s4 _ _ h1), hC, hNo _ (by simp), by rw [← hR]; rfl, rfl, _, hy3, ?_, same_updN s5 hD3, ?_⟩
            · rw [List.length_map, List.length_take, sizeLine_eq]
              omega
            · have er : decide (V.int (rkI (nmF p d) : Int) = V.int (r : Int)) = true := by
                have := hro.2.2.1 d (List.mem_of_getElem? hd1)
                unfold rkP at this
                rw [this]
                exact decide_eq_true rfl
              rw [upd_same, take_snoc hd1, List.map_append]
              show some (HO.lst (_ ++ [V.bl (decide (V.int (rkI (nmF p d) : Int) = V.int (r : Int)))])) = _
              rw [er]
              rfl
          obtain ⟨s5, hy3⟩ := e
          rw [List.length_map, List.length_map, List.take_of_length_le (Nat.le_refl _)] at hy3
          have s45 := s4.trans s5
          refine ⟨D3, own.map fun _ => true, rfl, SqL.of (by rw [hy3, List.map_map]; rfl), _, rfl, ?_⟩
          rw [show ((own.map fun _ => true).all id) = true from List.all_eq_true.mpr fun z hz => by
            obtain ⟨_, _, rfl⟩ := List.mem_map.mp hz
            rfl]
          refine tst (fun e => by cases e) fun _ => ?_
          have hLC5 := s45 _ _ hLC3
          have hx5 := s45 _ _ h1
          have lC : (ks.map V.ref).isEmpty = cs.isEmpty := by
            cases cs with
            | nil => rw [List.length_eq_zero_iff.mp lks]; rfl
            | cons _ _ =>
              cases ks with
              | nil => cases lks
              | cons _ _ => rfl
          have nz : cs.isEmpty = false → decide (V.int (r : Int) = V.int 0) = false := fun e => by
            have := hro.2.1 e
            exact decide_eq_false fun z => by
              injection z with z
              omega
          have key : ∀ (σ : L2.St) (Qt : Bool → Hp → Prop), σ[2]? = some (some (V.ref LC)) → σ[3]? = some (some (V.ref x)) → Qt false H5 → tAnd (fun σ H Q => tVar 2 σ H fun x H' => ∃ k, TruV K x H' k ∧ Q k H') (tTest (tOp rEq (tFld K (tVar 3) "rank") (tC (.int 0)))) σ H5 Qt := fun σ Qt g2 g3 qt => by
            refine ⟨_, g2, _, .inl ⟨_, SqL.of hLC5, rfl⟩, ?_⟩
            rw [lC]
            cases hce : cs.isEmpty with
            | true => exact iteF qt
            | false =>
              refine iteT ⟨.ref x, g3, x, CP, dx', _, .int (r : Int), rfl, hx5, hC, hNo _ (by simp), by rw [← hR]; rfl, rfl, _, rfl, ?_⟩
              rw [nz hce]
              exact qt
          refine key _ _ rfl rfl (iteF ?_)
          refine ⟨_, rfl, LC, rfl, ⟨_, SqL.of hLC5⟩, fun D4 hD4 => ?_⟩
          refine lc_list (xs := ks.map V.ref) (fun i H' => Same H5 H' ∧ H' D4 = some (.lst ((cs.take i).map fun _ => V.bl true))) ⟨same_up hD4, upd_same⟩ (fun i H' _ e => Same.seq e.1 (SqL.of hLC5)) (fun i x' H' hx e => ?_) (fun H6 e => ?_)
          · obtain ⟨s6, hy4⟩ := e
            rw [List.getElem?_map] at hx
            obtain ⟨k, hk1, rfl⟩ := Option.map_eq_some_iff.mp hx
            obtain ⟨u, hu1, hPk⟩ := parts_at hks3 hk1
            have um := List.mem_of_getElem? hu1
            have hPk := hPk.kt (kt_same (s45.trans s6))
            obtain ⟨r', lr, hu2⟩ := hro.2.2.2 u um
            have fin : some (HO.lst ((cs.take i).map (fun _ => V.bl true) ++ [V.bl true])) = some (HO.lst ((cs.take (i + 1)).map fun _ => V.bl true)) := by
              rw [take_snoc hu1, List.map_append]
              rfl
            have len : ((cs.take i).map fun _ => V.bl true).length < sizeLine := by
              rw [List.length_map, List.length_take, sizeLine_eq]
              omega
            refine ⟨rfl, ?_⟩
            show ∃ v, _ ∧ _
            cases u with
            | cut n0 m0 =>
              unfold PartAt at hPk
              obtain ⟨dk, hk2⟩ := hPk
              refine ⟨_, rfl, _, _, _, _, _, rfl, .own _, hI.c.ty hU.c hk2, (by unfold PySem.W.kitOne; rw [if_pos (beq_self_eq_true _)]), _, rfl, iteT ⟨_, hy4, len, same_updN s6 hD4, by rw [upd_same]; exact fin⟩⟩
            | mk cs2 own2 =>
              have hPk0 := hPk
              unfold PartAt at hPk
              obtain ⟨_, dk, c2, o2, n2, ks2, hk2, _, _, _, _⟩ := hPk
              refine ⟨_, rfl, _, _, _, _, _, rfl, .own _, hI.p.ty hC hk2, hI.no, _, rfl, iteF ?_⟩
              have hrk : (if cs2.isEmpty = true then (0 : Int) else (rkI ((own2.map (nmF p)).headD 0) : Int)) < (r : Int) := by
                cases hu2 with
                | leaf a b =>
                  show (0 : Int) < (r : Int)
                  omega
                | node a b c d e f =>
                  cases own2 with
                  | nil => exact absurd rfl c
                  | cons d2 ds2 =>
                    have := e d2 List.mem_cons_self
                    unfold rkP at this
                    show ((rkI (nmF p d2) : Nat) : Int) < _
                    omega
              refine ⟨.ref k, rfl, k, CP, dk, _, _, rfl, hk2, hC, hNo _ (by simp), rfl, .ref x, rfl, x, CP, dx', _, .int (r : Int), rfl, s6 _ _ hx5, hC, hNo _ (by simp), by rw [← hR]; rfl, _, _, rfl, rfl, _, hy4, len, same_updN s6 hD4, ?_⟩
              rw [upd_same, ← fin]
              exact congrArg (fun z : Bool => some (HO.lst ((cs.take i).map (fun _ => V.bl true) ++ [V.bl z]))) (decide_eq_true hrk)
          obtain ⟨s6, hy4⟩ := e
          rw [List.length_map, lks, List.take_of_length_le (Nat.le_refl _)] at hy4
          refine ⟨D4, cs.map fun _ => true, rfl, SqL.of (by rw [hy4, List.map_map]; rfl), _, rfl, ?_⟩
          rw [show ((cs.map fun _ => true).all id) = true from List.all_eq_true.mpr fun z hz => by
            obtain ⟨_, _, rfl⟩ := List.mem_map.mp hz
            rfl]
          refine tst (fun e => by cases e) fun _ => ?_
          exact ⟨_, rfl, q x H6 (sH.trans (s45.trans s6)) (part0.kt (kt_same (s45.trans s6)))⟩
end
end Sm
/-! read_part, root_of, check_root, is_enough, read. -/
namespace Sm
open PySem PySem.Spec PyProof.Rows L2 Vd RZ
section
variable {P : Program} {w : World} {K : PySem.W.Frag} {mg : Str → Option Value} {base : Heap}
theorem scReadPart : FnScope ["p", "thing", "fact"] ["p", "thing"] (defScope sReadPart) := ⟨rfl, rfl, rfl, by decide +kernel, rfl, by decide +kernel, by decide +kernel⟩
theorem scRootOf : FnScope ["p", "showing", "part"] ["p", "showing"] (defScope sRootOf) := ⟨rfl, rfl, rfl, by decide +kernel, rfl, by decide +kernel, by decide +kernel⟩
theorem scCkRoot : FnScope ["thing"] ["thing"] (defScope sCkRoot) := ⟨rfl, rfl, rfl, by decide +kernel, rfl, by decide +kernel, by decide +kernel⟩
theorem scEnough : FnScope ["part", "ahead", "behind", "stretches", "child", "low", "high"] ["part", "ahead", "behind", "stretches"] (defScope sEnough) := ⟨rfl, rfl, rfl, by decide +kernel, rfl, by decide +kernel, by decide +kernel⟩
/-- a right showing, whole: not a cut, its facts rise -/
structure ShR (p : Int) (t : Tr) : Prop where
  ok : ShOk p 6 t
  nc : isCutT t = false
  z : trMany t ≤ 3000
  f : FactL (trFacts t)
  r : risD ((trFacts t).map fkD) = true
def PrR (p : Int) : Prop := 1000 ≤ p ∧ p ≤ 170141183460469231731687303715884105728
def spReadPart (CP : Addr) (K : PySem.W.Frag) : Sp := fun vs H Q _ => ∃ (p : Int) (v : V) (t : Tr), vs = [.int p, v] ∧ PrR p ∧ Dd K H v (shD t) ∧ ShR p t ∧ ∀ a H', Same H H' → PartAt CP p K H' a t → Q (.ref a) H'
theorem ok_readpart {CP : Addr} {f : Addr} {fd : FuncData} (F : FnP K "read_part" sReadPart f fd) (M : Nm mg) (DIS : Df P w K mg base "is_showing" 12 ["p", "thing"] (spIsShow K 7)) (DG : Df P w K mg base "is_rising" 1 ["keys"] (spRis K)) (DK : DK P w K mg base "fact_key" 3 "fact" FactK fkD) (DFI : Df P w K mg base "facts_in" 7 ["showing"] (spFI K 7)) (DPI : ∀ p, Df P w K mg base "part_in" 12 ["p", "showing"] (spPartIn CP p K 7)) : FnOk P w K mg base CX0 13 f fd ["p", "thing"] (spReadPart CP K) := by
  refine F.ok scReadPart (fun vs H Q E h => ?_) (fun cdv A outer s H vs Q E hr h => ?_)
  · obtain ⟨p, v, t, rfl, _⟩ := h
    rfl
  obtain ⟨p, v, t, rfl, ⟨p1, p2⟩, hd, ht, q⟩ := h
  refine ⟨_, PSs.nox (pss_cons (ps_if (PW.pt (pw_or (pt_not (pt_val (pe_df DIS hr (by decide) (pa_cons (pv 0) (pa_cons (pv 1) pa_nil))))) (pw_or1 (pt_not (pt_val (pe_df DG hr (by decide) (pa_cons (pe_lc (own := [("fact", 2)]) (g := gName 2) (tt := tYes) (by rfl) scReadPart.nd (pi_list (pe_df DFI hr (by decide) (pa_cons (pv 1) pa_nil))) (blkOk_by (N := ["p", "thing", "fact"]) (sc := defScope sReadPart) (by decide +kernel)) (fun _ _ _ _ _ => pg_name (i := 2) scReadPart.nd rfl (Or.inl rfl)) (fun _ _ _ _ _ => pts_nil) (fun _ _ _ _ _ => (pe_df DK hr (by decide) (pa_cons (pv 2) pa_nil)))) pa_nil))))))) (pss_one (ps_never)) pss_nil)
      (pss_one (ps_ret (pe_df (DPI p) hr (by decide) (pa_cons (pv 0) (pa_cons (pv 1) pa_nil)))))), ?_⟩
  have zl := trFacts_len t
  have zt := ht.z
  refine ⟨_, rfl, _, rfl, p, v, t, rfl, p2, hd, ht.ok, ht.nc, ht.z, fun H1 s1 => ⟨_, rfl, tst (fun e => by cases e) fun _ => ?_⟩⟩
  refine ⟨_, rfl, p, v, t, rfl, hd.same s1, ht.ok, ht.z, fun L ys H2 s2 hL hys => ⟨L, rfl, ⟨_, SqL.of hL⟩, fun D hD => ?_⟩⟩
  refine lc_list (xs := ys) (fun i H' => Same H2 H' ∧ ∃ zs, H' D = some (.lst zs) ∧ DdAll K H' zs (((trFacts t).take i).map fkD)) ⟨same_up hD, [], upd_same, .nil⟩ (fun i H' _ e => Same.seq e.1 (SqL.of hL)) (fun i x H' hx e => ?_) (fun H3 e => ?_)
  · obtain ⟨sH, zs, hy, hzs⟩ := e
    obtain ⟨d, he, hdd⟩ := dall_at' hys hx
    have dm := List.mem_of_getElem? he
    have il : i < (trFacts t).length := (List.getElem?_eq_some_iff.mp he).1
    have hfd := ht.f d dm
    refine ⟨rfl, _, rfl, x, d, rfl, hdd.same sH, (fact_key hfd.1 hfd.2).1, fun v' H4 s4 hv => ⟨zs, s4 _ _ hy, ?_, same_updN (sH.trans s4) hD, zs ++ [v'], upd_same, ?_⟩⟩
    · have := dall_len hzs
      rw [List.length_map, List.length_take] at this
      rw [sizeLine_eq]
      omega
    · have kD := kt_upd (CP := 0) (u := .lst (zs ++ [v'])) (s4 _ _ hy) (fun e => e)
      rw [take_snoc he, List.map_append]
      refine dds_kt kD (keyTs_all.mpr fun z hz => ?_) (ddAll_snoc (DdAll.same s4 hzs) hv)
      rcases List.mem_append.mp hz with hz | hz
      · obtain ⟨d', hd', rfl⟩ := List.mem_map.mp hz
        have := ht.f d' (List.mem_of_mem_take hd')
        exact (fk_key this.1 this.2).1
      · rw [List.mem_singleton.mp hz]
        exact (fk_key hfd.1 hfd.2).1
  · obtain ⟨sH, zs, hy, hzs⟩ := e
    rw [dall_len hys, List.take_of_length_le (Nat.le_refl _)] at hzs
    have s13 := (s1.trans s2).trans sH
    refine ⟨D, zs, _, rfl, SqL.of hy, hzs, fks_ord (by omega) ht.f, fun H4 s4 => ⟨_, rfl, ?_⟩⟩
    rw [ht.r]
    refine tst (fun e => by cases e) fun _ => ?_
    exact ⟨_, rfl, _, rfl, v, t, rfl, by omega, p2, hd.same (s13.trans s4), ht.ok, ht.z, fun a H5 s5 part => q a H5 ((s13.trans s4).trans s5) part⟩
def spRootOf (CP : Addr) (K : PySem.W.Frag) : Sp := fun vs H Q _ => ∃ (p : Int) (v : V) (t : Tr), vs = [.int p, v] ∧ PrR p ∧ Dd K H v (shD t) ∧ ShR p t ∧ ∀ T H', Same H H' → TupN H' T [.int (trNum p t), .int (trMany t : Int)] → Q (.ref T) H'
theorem pr_ok {p : Int} (h : PrR p) : okD (.int p) = true ∧ primeD (.int p) = true := by
  obtain ⟨p1, p2⟩ := h
  refine ⟨decide_eq_true (show p.natAbs < 2 ^ 200 by omega), ?_⟩
  show (decide _ && decide _) = true
  rw [decide_eq_true p1, decide_eq_true p2]
  rfl
theorem part_f {CP : Addr} {p : Int} {H : Hp} {t : Tr} {a : Addr} (h : PartAt CP p K H a t) (nc : isCutT t = false) : ∃ (dx : Addr) (fs : List (Str × V)), H a = some (.ins CP dx fs) ∧ fs.lookup ("many" : Str) = some (V.int (trMany t : Int)) ∧ fs.lookup ("number" : Str) = some (V.int (trNum p t)) := by
  cases t with
  | cut n m => cases nc
  | mk cs own => exact part_get h fun n m e => by cases e
theorem ok_rootof {CP : Addr} {f : Addr} {fd : FuncData} (F : FnP K "root_of" sRootOf f fd) (DCP : Df P w K mg base "check_prime" 3 ["thing"] (spCkP K)) (DRP : Df P w K mg base "read_part" 13 ["p", "thing"] (spReadPart CP K)) (hC : Cls K CP) (nu : NoAttr K CP "number") (nM : NoAttr K CP "many") : FnOk P w K mg base CX0 14 f fd ["p", "showing"] (spRootOf CP K) := by
  refine F.ok scRootOf (fun vs H Q E h => ?_) (fun cdv A outer s H vs Q E hr h => ?_)
  · obtain ⟨p, v, t, rfl, _⟩ := h
    rfl
  obtain ⟨p, v, t, rfl, hp, hd, ht, q⟩ := h
  refine ⟨_, PSs.nox (pss_cons (ps_expr (pe_df DCP hr (by decide) (pa_cons (pv 0) pa_nil)))
      (pss_cons (ps_set (i := 2) scRootOf.nd rfl (Or.inl rfl) (pe_df DRP hr (by decide) (pa_cons (pv 0) (pa_cons (pv 1) pa_nil))))
      (pss_one (ps_ret (pe_tup (pa_cons (pe_fld (pv 2) (by rfl)) (pa_cons (pe_fld (pv 2) (by rfl)) pa_nil))))))), ?_⟩
  refine ⟨_, rfl, .int p, .int p, rfl, .int p, (pr_ok hp).1, (pr_ok hp).2, fun H1 s1 => ?_⟩
  refine ⟨_, rfl, _, rfl, p, v, t, rfl, hp, hd.same s1, ht, fun a H2 s2 part => ?_⟩
  obtain ⟨dx, fs, ha, lm, ln⟩ := part_f part ht.nc
  exact ⟨.ref a, rfl, a, CP, dx, fs, _, rfl, ha, hC, nu, ln, .ref a, rfl, a, CP, dx, fs, _, rfl, ha, hC, nM, lm, by rw [sizeLine_eq]; exact (by decide : 2 ≤ 16777216), fun T nT => q T _ ((s1.trans s2).trans (same_up nT)) (.inl upd_same)⟩
def RootAt (H : Hp) (v : V) (n m : Int) : Prop := ∃ T, v = .ref T ∧ TupN H T [.int n, .int m] ∧ 0 ≤ n ∧ n.natAbs < 2 ^ 200 ∧ 0 ≤ m ∧ m.natAbs < 2 ^ 200
theorem RootAt.same {H H' : Hp} {v : V} {n m : Int} (h : RootAt H v n m) (s : Same H H') : RootAt H' v n m := by
  obtain ⟨T, e, h1, h2⟩ := h
  exact ⟨T, e, h1.same s, h2⟩
def spCkRoot (K : PySem.W.Frag) : Sp := fun vs H Q _ => ∃ (v : V) (n m : Int), vs = [v] ∧ RootAt H v n m ∧ ∀ H', Same H H' → Q .non H'
theorem ok_ckroot {f : Addr} {fd : FuncData} (F : FnP K "check_root" sCkRoot f fd) (DT : Df P w K mg base "is_tuple_of" 1 ["thing", "least", "most"] (spTupOf K)) (DNb : Df P w K mg base "is_number" 2 ["thing"] spNumb) : FnOk P w K mg base CX0 3 f fd ["thing"] (spCkRoot K) := by
  refine F.ok scCkRoot (fun vs H Q E h => ?_) (fun cdv A outer s H vs Q E hr h => ?_)
  · obtain ⟨v, n, m, rfl, _⟩ := h
    rfl
  obtain ⟨v, n, m, rfl, ⟨T, rfl, hT, n0, n1, m0, m1⟩, q⟩ := h
  refine ⟨_, PSs.nox (pss_one (ps_if (PW.pt (pw_or (pt_not (pt_val (pe_df DT hr (by decide) (pa_cons (pv 0) (pa_cons pe_int (pa_cons pe_int pa_nil)))))) (pw_or (pt_not (pt_val (pe_df DNb hr (by decide) (pa_cons (pe_ix (r := rIxT K) ix_tup (pv 0) pe_int (fun _ _ => rfl)) pa_nil)))) (pw_or1 (pt_not (pt_val (pe_df DNb hr (by decide) (pa_cons (pe_ix (r := rIxT K) ix_tup (pv 0) pe_int (fun _ _ => rfl)) pa_nil)))))))) (pss_one (ps_never)) pss_nil)), ?_⟩
  have hd : Dd K H (.ref T) (.tuple [.int n, .int m]) := .tup hT (.cons (.int _) (.cons (.int _) .nil))
  refine ⟨_, rfl, _, _, 2, 2, rfl, hd, _, rfl, ?_⟩
  rw [show tupOfD 2 2 (.tuple [.int n, .int m]) = true from rfl]
  refine tst (fun e => by cases e) fun _ => ?_
  refine ⟨_, rfl, T, _, 0, _, rfl, rfl, hT.sq, atI_nat (j := 0) rfl, n, rfl, n0, n1, fun H1 s1 => ⟨_, rfl, tst (fun e => by cases e) fun _ => ?_⟩⟩
  exact ⟨_, rfl, T, _, 1, _, rfl, rfl, (hT.same s1).sq, atI_nat (j := 1) rfl, m, rfl, m0, m1, fun H2 s2 => ⟨_, rfl, tst (fun e => by cases e) fun _ => q H2 (s1.trans s2)⟩⟩
end
end Sm
/-! is_enough. -/
namespace Sm
open PySem PySem.Spec PyProof.Rows L2 Vd RZ
mutual
def enough (ts : List Stt) : Tr → Option PyData → Option PyData → Bool
  | .cut _ _, oa, ob => shutAll ts oa ob
  | .mk cs own, oa, ob => (enoughL ts cs oa own ob).all id
def enoughL (ts : List Stt) : List Tr → Option PyData → List PyData → Option PyData → List Bool
  | [], _, _, _ => []
  | t :: r, oa, own, ob => enough ts t oa (nxt own ob) :: enoughL ts r own.head? own.tail ob
end
theorem enoughL_len (ts : List Stt) : ∀ (cs : List Tr) (oa : Option PyData) (own : List PyData) (ob : Option PyData), (enoughL ts cs oa own ob).length = cs.length
  | [], _, _, _ => by
    unfold enoughL
    rfl
  | t :: r, oa, own, ob => by
    unfold enoughL
    rw [List.length_cons, List.length_cons, enoughL_len]
theorem enoughL_at (ts : List Stt) : ∀ (cs : List Tr) (oa : Option PyData) (own : List PyData) (ob : Option PyData) (i : Nat) (t : Tr) (x y : Option PyData), cs.length ≤ own.length + 1 → cs[i]? = some t → (oa :: (own.map some ++ [ob]))[i]? = some x → (own.map some ++ [ob])[i]? = some y →
    (enoughL ts cs oa own ob)[i]? = some (enough ts t x y)
  | [], oa, own, ob, i, t, x, y, h, ht, hx, hy => by simp at ht
  | c :: cs, oa, own, ob, i, t, x, y, h, ht, hx, hy => by
    unfold enoughL
    cases i with
    | zero =>
      cases ht
      cases hx
      have e : nxt own ob = y := by
        cases own with
        | nil =>
          cases hy
          rfl
        | cons o r =>
          cases hy
          rfl
      rw [e]
      rfl
    | succ i =>
      cases own with
      | nil =>
        have : cs = [] := List.length_eq_zero_iff.mp (by have h' : cs.length + 1 ≤ 0 + 1 := h; omega)
        subst this
        simp at ht
      | cons o r =>
        exact enoughL_at ts cs (some o) r ob i t x y (by simpa using h) (by simpa using ht) (by simpa using hx) (by simpa using hy)
section
variable {P : Program} {w : World} {K : PySem.W.Frag} {mg : Str → Option Value} {base : Heap}
def spEnough (CP : Addr) (K : PySem.W.Frag) : Nat → Sp
  | 0 => fun _ _ _ _ => False
  | k + 1 => fun vs H Q _ => ∃ (p : Int) (a : Addr) (t : Tr) (x y sv : V) (oa ob : Option PyData) (d : PyData) (ts : List Stt), vs = [.ref a, x, y, sv] ∧ PartAt CP p K H a t ∧ ShOk p k t ∧ trMany t ≤ 3000 ∧ Dd K H x (odD oa) ∧ Dd K H y (odD ob) ∧ OF oa ∧ OF ob ∧ Dd K H sv d ∧ StrsK d ts ∧ ∀ H', Same H H' → Q (.bl (enough ts t oa ob)) H'
theorem ok_enough {CP : Addr} {f f1 : Addr} {fd fd1 : FuncData} (F : FnP K "is_enough" sEnough f fd) (hm : mg "is_enough" = some (.ref f)) (hk : PySem.W.keepIn K (.ref f) = true) (hb : Binds K fd ["part", "ahead", "behind", "stretches"] []) (M : Nm mg) (hmU : mg "Cut" = some (.ref (He.ga K "Cut"))) (PL : MPlaced P w K mg base CP f1 fd1) (DSh : Df P w K mg base "is_shut" 7 ["stretches", "ahead", "behind"] (spShut K))
    (hC : Cls K CP) (hU : CutK K) (hI : CutIs K CP) : ∀ k, FnOk P w K mg base CX0 (8 + k) f fd ["part", "ahead", "behind", "stretches"] (spEnough CP K k)
  | 0 => ⟨fun vs H Q E h => h.elim, fun A outer s H args us vs Q E hr e0 hb' r h => h.elim⟩
  | n + 1 => by
    have DS : Df P w K mg base "is_enough" (8 + n) ["part", "ahead", "behind", "stretches"] (spEnough CP K n) := ⟨f, fd, hm, hk, hb, ok_enough F hm hk hb M hmU PL DSh hC hU hI n⟩
    refine F.ok scEnough (fun vs H Q E h => ?_) (fun cdv A outer s H vs Q E hr h => ?_)
    · obtain ⟨p, a, t, x, y, sv, oa, ob, d, ts, rfl, _⟩ := h
      rfl
    obtain ⟨p, a, t, x, y, sv, oa, ob, d, ts, rfl, hP, ht, zt, hx, hy, ka, kb, hsv, hts, q⟩ := h
    refine ⟨_, PSs.nox (pss_cons (ps_if (pt_val (pe_callB (id := "isinstance") (r := rIsi K) call_isi (by rfl) M.isinstance (by decide +kernel) (pa_cons (pv 0) (pa_cons (pe_glob (v := .ref (He.ga K "Cut")) (by rfl) hmU rfl) pa_nil)))) (pss_one (ps_ret (pe_df DSh hr (le8 (by decide)) (pa_cons (pv 3) (pa_cons (pv 1) (pa_cons (pv 2) pa_nil)))))) pss_nil)
      (pss_one (ps_ret (pe_callB (r := rAll K) (cr_all rfl) (by rfl) M.all (by decide +kernel) (pa_cons (pe_lc (own := [("child", 4), ("low", 5), ("high", 6)]) (g := gTup K 3 (gCons (gName 4) (gCons (gName 5) (gCons (gName 6) gNil)))) (tt := tYes) (by rfl) scEnough.nd (pi_list (pe_meth (pv 0) hC PL.m PL.F (hr.mono (le8 (by decide))) PL.hb .nil pass0 (pa_cons (pv 1) (pa_cons (pv 2) pa_nil)))) (blkOk_by (N := ["part", "ahead", "behind", "stretches", "child", "low", "high"]) (sc := defScope sEnough) (by decide +kernel)) (fun _ _ _ _ _ => (pg_tup rfl (pgs_cons (pg_name (i := 4) scEnough.nd rfl (Or.inl rfl)) (pgs_cons (pg_name (i := 5) scEnough.nd rfl (Or.inl rfl)) (pgs_cons (pg_name (i := 6) scEnough.nd rfl (Or.inl rfl)) pgs_nil))))) (fun _ _ _ _ _ => pts_nil) (fun _ _ _ _ _ => (pe_df DS hr (Nat.le_refl _) (pa_cons (pv 4) (pa_cons (pv 5) (pa_cons (pv 6) (pa_cons (pv 3) pa_nil))))))) pa_nil))))), ?_⟩
    cases t with
    | cut n0 m0 =>
      unfold PartAt at hP
      obtain ⟨dk, hk2⟩ := hP
      refine ⟨_, rfl, _, _, _, _, _, rfl, .own _, hI.c.ty hU.c hk2, (by unfold PySem.W.kitOne; rw [if_pos (beq_self_eq_true _)]), _, rfl, iteT ?_⟩
      unfold enough at q
      exact ⟨_, rfl, _, rfl, _, rfl, sv, x, y, d, ts, oa, ob, rfl, hsv, hts, hx, hy, ka, kb, q⟩
    | mk cs own =>
      have zo := many_own (cs := cs) (own := own)
      obtain ⟨hf, hl, hcs⟩ : FactL own ∧ cs.length ≤ own.length + 1 ∧ ∀ u ∈ cs, ShOk p (n - 1) u ∧ 0 < n := by
        rcases mk_cases ht with ⟨_, _, e, _⟩ | ⟨cs', own', _, _, e, hf, _, _, _, hl, _, hcs, _⟩
        · cases e
        · cases e
          exact ⟨hf, hl, hcs⟩
      unfold PartAt at hP
      obtain ⟨_, dx, c, o, n', ks, h1, h2, h3, h4, h5⟩ := hP
      have lk := parts_len h3
      obtain ⟨op, os, eo, hot, hod⟩ := ofTup h4
      cases eo
      have los := dall_len hod
      have L1 := enoughL_len ts cs oa own ob
      have La := enoughL_at ts cs oa own ob
      unfold enough at q
      generalize enoughL ts cs oa own ob = bs at L1 La q
      have ofo : ∀ z ∈ oa :: (own.map some ++ [ob]), OF z := fun z hz => by
        simp only [List.mem_cons, List.mem_append, List.mem_map, List.not_mem_nil, or_false] at hz
        rcases hz with rfl | ⟨e, he, rfl⟩ | rfl
        · exact ka
        · intro d hd
          cases hd
          exact hf e he
        · exact kb
      have hbn : DdAll K H (x :: (os ++ [y])) ((oa :: (own.map some ++ [ob])).map odD) := by
        have h := DdAll.cons hx (ddAll_snoc hod hy)
        have e : (oa :: (own.map some ++ [ob])).map odD = odD oa :: (own ++ [odD ob]) := by
          simp [Function.comp_def, odD]
        rw [e]
        exact h
      refine ⟨_, rfl, _, _, _, _, _, rfl, .own _, hI.p.ty hC h1, hI.no, _, rfl, iteF ?_⟩
      refine ⟨.ref a, rfl, a, dx, _, rfl, h1, rfl, _, rfl, _, rfl, a, dx, c, o, _, ks.map V.ref, os, x, y, rfl, h1, rfl, rfl, h2, hot, by rw [List.length_map]; omega, by omega, fun S H2 us s2 hS hlS tr => ⟨S, rfl, ⟨_, SqL.of hS⟩, fun D hD => ?_⟩⟩
      rw [List.length_map] at hlS
      refine lc_list (xs := us.map V.ref) (fun i H' => Same H2 H' ∧ H' D = some (.lst ((bs.take i).map V.bl))) ⟨same_up hD, upd_same⟩ (fun i H' _ e => Same.seq e.1 (SqL.of hS)) (fun i z H' hz e => ?_) (fun H3 e => ?_)
      · obtain ⟨s3, hy3⟩ := e
        rw [List.getElem?_map] at hz
        obtain ⟨T, hT, rfl⟩ := Option.map_eq_some_iff.mp hz
        have il := (List.getElem?_eq_some_iff.mp hT).1
        obtain ⟨k, hk1⟩ : ∃ k, ks[i]? = some k := ⟨_, List.getElem?_eq_getElem (by omega)⟩
        obtain ⟨bx, hbx⟩ : ∃ b, (x :: (os ++ [y]))[i]? = some b := ⟨_, List.getElem?_eq_getElem (by simp; omega)⟩
        obtain ⟨by', hby⟩ : ∃ b, (os ++ [y])[i]? = some b := ⟨_, List.getElem?_eq_getElem (by simp; omega)⟩
        have hTt := tr i T (.ref k) bx by' hT (by rw [List.getElem?_map, hk1]; rfl) hbx hby
        obtain ⟨dx', hdx1, hdx2⟩ := dall_at' hbn hbx
        obtain ⟨dy', hdy1, hdy2⟩ := dall_at' hbn (show (x :: (os ++ [y]))[i + 1]? = some by' by simpa using hby)
        rw [List.getElem?_map] at hdx1 hdy1
        obtain ⟨pa, hpa, rfl⟩ := Option.map_eq_some_iff.mp hdx1
        obtain ⟨pb, hpb, rfl⟩ := Option.map_eq_some_iff.mp hdy1
        obtain ⟨tk, htk, hPk⟩ := parts_at h3 hk1
        have tm := List.mem_of_getElem? htk
        obtain ⟨hcs1, hcs2⟩ := hcs tk tm
        obtain ⟨n2, rfl⟩ : ∃ n2, n = n2 + 1 := ⟨n - 1, by omega⟩
        have mk := many_kid (own := own) tm
        have hbi := La i tk pa pb hl htk hpa (by simpa using hpb)
        have fpa : OF pa := ofo pa (List.mem_of_getElem? hpa)
        have fpb : OF pb := ofo pb (List.mem_of_getElem? hpb)
        have s23 := s2.trans s3
        refine ⟨T, _, rfl, .inl (.inl (s3 _ _ hTt)), rfl, .ref k, [bx, by'], rfl, bx, [by'], rfl, by', [], rfl, rfl, rfl, ?_⟩
        refine ⟨_, rfl, _, rfl, _, rfl, _, rfl, p, k, tk, bx, by', sv, pa, pb, d, ts, rfl, hPk.kt (kt_same s23), hcs1, by omega, hdx2.same s23, hdy2.same s23, fpa, fpb, hsv.same s23, hts, fun H4 s4 => ⟨_, s4 _ _ hy3, ?_, same_updN (s3.trans s4) hD, ?_⟩⟩
        · rw [List.length_map, List.length_take, sizeLine_eq]
          omega
        · rw [upd_same, take_snoc hbi, List.map_append]
          rfl
      · obtain ⟨s3, hy3⟩ := e
        rw [List.length_map, List.take_of_length_le (by omega)] at hy3
        exact ⟨D, bs, rfl, SqL.of hy3, q H3 (s2.trans s3)⟩
end
end Sm
/-! != of two tuples of keys. -/
namespace Kn
open PySem PySem.SeqAt PySem.AutoSeq1 PySem.MeetsSeq PySem.MeetsSeq2 PySem.MeetsSeq3
/-- x comes behind y by `>` -/
def NeAt (A : Around) (s : Shared) (x y : Value) (b : Bool) : Prop := ∀ (P : Program) (w : World) (Er Qr : Value → Shared → Prop), Qr (.bool b) s → wpAny (model P w) A (richCompare .NotEq x y) Qr Er s
/-- two rows of values: the first place where they are unlike decides -/
inductive Nx (A : Around) (s : Shared) : List Value → List Value → Bool → Prop
  | done {ys : List Value} : Nx A s [] ys (!ys.isEmpty)
  | short {x : Value} {xs : List Value} : Nx A s (x :: xs) [] true
  | alike {x y : Value} {xs ys : List Value} {b : Bool} : EqAt A s x y true → Nx A s xs ys b → Nx A s (x :: xs) (y :: ys) b
  | apart {x y : Value} {xs ys : List Value} {b : Bool} : EqAt A s x y false → b = true → Nx A s (x :: xs) (y :: ys) b
theorem ne_meets (p q : Addr) (us ws : Array Value) (e1 e2 : Nat) (f1 f2 : Option Addr) (g1 g2 : Array (Option Value)) (k : Bool) :
    Meets (Builtin.«tuple.__ne__» ⟨[.ref p, .ref q], []⟩) (fun A R s => s.heap.get? p = some { cls := .type "tuple", dict := f1, data := .seq us e1, slots := g1 } ∧
      s.heap.get? q = some { cls := .type "tuple", dict := f2, data := .seq ws e2, slots := g2 } ∧ Nx A.in1 s us.toList ws.toList k ∧ R (.ok (.ret (.bool k))) s) :=
  .of_wp fun P w A R s hyp => by
    obtain ⟨hh, hg, hd, ht, ho⟩ := s
    obtain ⟨k1, k2, kx, kr⟩ := hyp
    have sub := AutoSeq1.sub_tuple_tuple
    wp_walk using wpAny_loadPart' k1, wpAny_loadPart' k2, wpAny_forIn_list _ (fun rst acc s' => acc.1 = none ∧ s' = ⟨hh, hg, hd, ht, ho⟩ ∧
      ∃ (l m : List Value), rst = l.zip m ∧ Nx A.in1 ⟨hh, hg, hd, ht, ho⟩ l m k ∧ l.length + ws.size = m.length + us.size) _
    case turn =>
      rintro ⟨y, x⟩ rst acc s' ⟨hacc, rfl, l, m, hz, hL, hn⟩
      cases hL with
      | done =>
        rw [List.zip_nil_left] at hz
        cases hz
      | short =>
        rw [List.zip_nil_right] at hz
        cases hz
      | alike he hl =>
        rw [List.zip_cons_cons] at hz
        injection hz with hz1 hz2
        injection hz1 with hz3 hz4
        subst hz3 hz4
        refine wpAny_bind (he P w _ _ ?_)
        wp_walk
        exact ⟨rfl, rfl, _, _, hz2, hl, by simp only [List.length_cons] at hn; omega⟩
      | apart he hl =>
        rw [List.zip_cons_cons] at hz
        injection hz with hz1 hz2
        injection hz1 with hz3 hz4
        subst hz3 hz4
        refine wpAny_bind (he P w _ _ ?_)
        wp_walk
        subst hl
        exact ⟨_, rfl, kr⟩
    case fin =>
      rintro ⟨c1, c2⟩ s' ⟨hacc, rfl, l, m, hz, hL, hn⟩
      simp only at hacc
      subst hacc
      have hk : (us.size != ws.size) = k := by
        cases hL with
        | done =>
          cases m with
          | nil =>
            simp only [List.length_nil] at hn
            have : us.size = ws.size := by omega
            simp [this]
          | cons _ _ =>
            simp only [List.length_nil, List.length_cons] at hn
            have : us.size ≠ ws.size := by omega
            simp [this]
        | short =>
          simp only [List.length_nil, List.length_cons] at hn
          have : us.size ≠ ws.size := by omega
          simp [this]
        | alike _ _ => cases hz
        | apart _ _ => cases hz
      wp_walk
      exact ⟨_, rfl, by simpa [Builtin.Tuple.tupleCompareSizes, hk] using kr⟩
    case h => exact ⟨rfl, rfl, _, _, rfl, kx, by simp [Nat.add_comm]⟩
theorem ne_tup {A : Around} {s : Shared} {p q : Addr} {us ws : Array Value} {k : Bool} (hp : s.heap.IsTuple p us) (hq : s.heap.IsTuple q ws) (hu : A.units < cLine) (h : Nx A.in1 s us.toList ws.toList k) : NeAt A s (.ref p) (.ref q) k := fun P w Er Qr hQ => by
  obtain ⟨⟨c1, f1, d1, g1⟩, o1, c1', n1, t1⟩ := id hp
  obtain ⟨⟨c2, f2, d2, g2⟩, o2, c2', n2, t2⟩ := id hq
  simp only at c1' t1 c2' t2
  subst c1' t1 c2' t2
  refine richCompare_meets_room (op := .NotEq) ⟨_, o1, rfl⟩ ⟨_, o2, rfl⟩ F.slot_tuple_ne F.entry_tuple_ne (F.args_tuple_ne_2 _ _) (ne_meets p q us ws n1 n2 f1 f2 g1 g2 k) ⟨o1, o2, h, ?_⟩ hu
  exact (show Value.bool k ≠ Value.notImplemented ∧ Qr (.bool k) s from ⟨(fun z => nomatch z), hQ⟩)
end Kn
namespace Sm
open PySem PySem.Spec PyProof.Rows L2 Vd
section
variable {X : Cx} {pins : List (Addr × Obj)} {σ : L2.St} {H : Hp} {s : Shared}
theorem nxs_run (I : Inv X pins σ H s) : ∀ {ds es : List PyData} {vs us : List V} {as bs : List Value} {A : Around}, keyTs ds = true → keyTs es = true → DdAll X.K H vs ds → DdAll X.K H us es → Vals vs as → Vals us bs → A.units + dpDs ds < cLine → A.units + dpDs es < cLine →
    Kn.Nx A s as bs (!eqDs ds es)
  | [], [], vs, us, as, bs, A, kd, ke, hv, hu, ra, rb, l1, l2 => by
    cases hv
    cases ra
    cases hu
    cases rb
    exact .done
  | [], _ :: _, vs, us, as, bs, A, kd, ke, hv, hu, ra, rb, l1, l2 => by
    cases hv
    cases ra
    cases hu
    cases rb
    exact .done
  | d :: r, [], vs, us, as, bs, A, kd, ke, hv, hu, ra, rb, l1, l2 => by
    cases hv
    cases ra
    cases hu
    cases rb
    exact .short
  | d :: r, e :: q, vs, us, as, bs, A, kd, ke, hv, hu, ra, rb, l1, l2 => by
    cases hv with
    | cons hv1 hv2 =>
      cases hu with
      | cons hu1 hu2 =>
        cases ra with
        | cons ra1 ra2 =>
          cases rb with
          | cons rb1 rb2 =>
            unfold keyTs at kd ke
            obtain ⟨a1, a2⟩ := Bool.and_eq_true_iff.mp kd
            obtain ⟨b1, b2⟩ := Bool.and_eq_true_iff.mp ke
            unfold dpDs at l1 l2
            have he := ea_run I (A := A) a1 b1 hv1 hu1 ra1 rb1 (by omega) (by omega)
            rw [eqDs_cons]
            cases hq : eqD d e with
            | true =>
              rw [hq] at he
              rw [Bool.true_and]
              exact .alike he (nxs_run I a2 b2 hv2 hu2 ra2 rb2 (by omega) (by omega))
            | false =>
              rw [hq] at he
              exact .apart he rfl
/-- != of two tuples of keys -/
def rNeT (K : PySem.W.Frag) : R2 := fun x y H Q => ∃ ds es, Dd K H x (.tuple ds) ∧ Dd K H y (.tuple es) ∧ keyTs ds = true ∧ keyTs es = true ∧ dpDs ds ≤ 60 ∧ dpDs es ≤ 60 ∧ Q (.bl (!eqDs ds es)) H
theorem op_neT (hr : X.A.units + 64 < cLine) : OpR X (compareOp .NotEq) (rNeT X.K) := by
  intro pins s σ H x y v u Q I rx ry h
  obtain ⟨ds, es, hd, he, kd, ke, l1, l2, q⟩ := h
  cases hd with
  | @tup p xs _ h1 h2 =>
    cases he with
    | @tup p2 ys _ g1 g2 =>
      cases rx
      cases ry
      obtain ⟨its, r, pl, _⟩ := I.tuple (TupN.sq (K := X.K) h1)
      obtain ⟨its2, r2, pl2, _⟩ := I.tuple (TupN.sq (K := X.K) g1)
      have key := nxs_run I (A := X.A.in1) kd ke h2 g2 r r2 (by show X.A.units + 1 + dpDs ds < cLine; omega) (by show X.A.units + 1 + dpDs es < cLine; omega)
      exact Kn.ne_tup pl pl2 (by omega) (by simpa using key) _ _ _ _ ⟨.bl _, H, I, rfl, q⟩
end
end Sm
/-! read. -/
namespace Sm
open PySem PySem.Spec PyProof.Rows L2 Vd RZ
theorem anyB {α : Type} (l : List α) (g : α → Bool) : ((l.map g).any id) = l.any g := by
  rw [List.any_map]
  rfl
theorem any_tup2 {α : Type} {K : PySem.W.Frag} {a : Addr} {xs : List V} {f : α → PyData} {ts : List α} {p : α → Bool} {i j : Nat} {te : TE} {σ : L2.St} {H : Hp} {Q : VK} {tp : TE} (htp : ∀ Q' : VK, Q' (.ref a) H → tp σ H Q') (h1 : SqT K H a xs) (hd : DdAll K H xs (ts.map f)) (hz : ts.length ≤ 4000) (hw : ∀ v, wipe ((wipe σ [j]).set j v) [j] = wipe σ [j])
    (hte : ∀ (v : V) (t : α) (H' : Hp) (Q : VK), t ∈ ts → Same H H' → Dd K H' v (f t) → (∀ H'', Same H' H'' → Q (.bl (p t)) H'') → te ((wipe σ [j]).set j (some v)) H' Q) (q : ∀ H', Same H H' → Q (.bl (ts.any p)) H') : tCB (rAny K) (tCons (tLc (iTup K tp) (gName j) tYes te [j]) tNil) σ H Q := by
  have hx0 : xs.length = ts.length := by rw [dall_len hd, List.length_map]
  refine htp _ ⟨a, rfl, ⟨_, h1⟩, fun D hD => ?_⟩
  refine lc_tup (xs := xs) (fun i H' => Same H H' ∧ H' D = some (.lst ((ts.take i).map fun d => V.bl (p d)))) ⟨same_up hD, upd_same⟩ (fun i H' _ e => SqT.same e.1 h1) (fun i x H' hx e => ?_) (fun H1 e => ?_)
  · obtain ⟨d, he, hdd⟩ := dall_at' hd hx
    rw [List.getElem?_map] at he
    obtain ⟨t, ht, rfl⟩ := Option.map_eq_some_iff.mp he
    have il : i < ts.length := (List.getElem?_eq_some_iff.mp ht).1
    refine ⟨hw _, ?_⟩
    refine hte x t H' _ (List.mem_of_getElem? ht) e.1 (Dd.same e.1 hdd) fun H2 s2 => ⟨_, s2 _ _ e.2, ?_, ?_, ?_⟩
    · rw [List.length_map, List.length_take, sizeLine_eq]
      omega
    · intro c' o z
      rw [upd_ne (ne_of_none z hD)]
      exact s2 _ _ (e.1 c' o z)
    · rw [upd_same, List.take_add_one, ht, List.map_append]
      rfl
  · refine ⟨D, ts.map p, rfl, SqL.of ?_, ?_⟩
    · rw [e.2, hx0, List.take_of_length_le (Nat.le_refl _), List.map_map]
      rfl
    · rw [anyB]
      exact q H1 e.1
section
variable {P : Program} {w : World} {K : PySem.W.Frag} {mg : Str → Option Value} {base : Heap}
theorem scRead : FnScope ["p", "root", "showing", "stretches", "part", "told", "fact", "stretch"] ["p", "root", "showing", "stretches"] (defScope sRead) := ⟨rfl, rfl, rfl, by decide +kernel, rfl, by decide +kernel, by decide +kernel⟩
/-- what of a list of facts is in the stretches -/
def inAny (ts : List Stt) (ds : List PyData) : List PyData := ds.filter fun d => ts.any fun t => decide (sideF t d = 0)
def spRead (CP : Addr) (K : PySem.W.Frag) : Sp := fun vs H Q _ => ∃ (p : Int) (rv v sv : V) (n m : Int) (t : Tr) (d : PyData) (ts : List Stt), vs = [.int p, rv, v, sv] ∧ PrR p ∧ RootAt H rv n m ∧ Dd K H v (shD t) ∧ ShR p t ∧ Dd K H sv d ∧ StrsK d ts ∧
  ∀ u H', Same H H' → ((u = .non ∧ ((n = trNum p t ∧ m = (trMany t : Int)) → enough ts t none none = false)) ∨ ((n = trNum p t ∧ m = (trMany t : Int)) ∧ enough ts t none none = true ∧ Dd K H' u (.tuple (inAny ts (trFacts t))))) → Q u H'
theorem ok_read {CP : Addr} {f : Addr} {fd : FuncData} (F : FnP K "read" sRead f fd) (M : Nm mg) (hany : mg "any" = none) (DCP : Df P w K mg base "check_prime" 3 ["thing"] (spCkP K)) (DCR : Df P w K mg base "check_root" 3 ["thing"] (spCkRoot K)) (DRP : Df P w K mg base "read_part" 13 ["p", "thing"] (spReadPart CP K)) (DCS : Df P w K mg base "check_stretches" 5 ["thing"] (spCkS K)) (DEn : Df P w K mg base "is_enough" 15 ["part", "ahead", "behind", "stretches"] (spEnough CP K 7)) (DFI : Df P w K mg base "facts_in" 7 ["showing"] (spFI K 7)) (DIn : Df P w K mg base "is_in" 4 ["stretch", "fact"] (spSF K fun n => decide (n = 0))) (hC : Cls K CP) (nu : NoAttr K CP "number") (nM : NoAttr K CP "many") : FnOk P w K mg base CX0 16 f fd ["p", "root", "showing", "stretches"] (spRead CP K) := by
  refine F.ok scRead (fun vs H Q E h => ?_) (fun cdv A outer s H vs Q E hr h => ?_)
  · obtain ⟨p, rv, v, sv, n, m, t, d, ts, rfl, _⟩ := h
    rfl
  obtain ⟨p, rv, v, sv, n, m, t, d, ts, rfl, hp, hroot, hd, ht, hsv, hts, q⟩ := h
  refine ⟨_, PSs.nox (pss_cons (ps_expr (pe_df DCP hr (by decide) (pa_cons (pv 0) pa_nil)))
      (pss_cons (ps_expr (pe_df DCR hr (by decide) (pa_cons (pv 1) pa_nil)))
      (pss_cons (ps_set (i := 4) scRead.nd rfl (Or.inl rfl) (pe_df DRP hr (by decide) (pa_cons (pv 0) (pa_cons (pv 2) pa_nil))))
      (pss_cons (ps_expr (pe_df DCS hr (by decide) (pa_cons (pv 3) pa_nil)))
      (pss_cons (ps_if (PW.pt (pw_or (pt_cmpR (r := rNeT K) (op_neT (hu64 hr)) (pe_tup (pa_cons (pe_fld (pv 4) (by rfl)) (pa_cons (pe_fld (pv 4) (by rfl)) pa_nil))) (pv 1) (nomark _)) (pw_or1 (pt_not (pt_val (pe_df DEn hr (by decide) (pa_cons (pv 4) (pa_cons pe_non (pa_cons pe_non (pa_cons (pv 3) pa_nil)))))))))) (pss_one (ps_ret pe_non)) pss_nil)
      (pss_cons (ps_setLc (i := 5) (own := [("fact", 6)]) (g := gName 6) (tt := tB (tCB (rAny K) (tCons (tLc (iTup K (tVar 3)) (gName 7) tYes (tCall (spSF K fun n => decide (n = 0)) [] E0 (tCons (tVar 7) (tCons (tVar 6) tNil))) [7]) tNil))) rfl scRead.nd rfl rfl (sw_true rfl rfl rfl (by decide +kernel)) (pi_list (pe_df DFI hr (by decide) (pa_cons (pv 2) pa_nil))) (blkOk_by (N := ["p", "root", "showing", "stretches", "part", "told", "fact", "stretch"]) (sc := defScope sRead) (by decide +kernel)) (fun _ _ _ _ _ => pg_name (i := 6) scRead.nd rfl (Or.inr rfl)) (fun _ _ _ _ _ => pts_one (pt_val (pe_callB (r := rAny K) (cr_any rfl) (by rfl) hany (by decide +kernel) (pa_cons (pe_lc (own := [("stretch", 7)]) (g := gName 7) (tt := tYes) (by rfl) scRead.nd (pi_tup (pv 3)) (blkOk_by (N := ["p", "root", "showing", "stretches", "part", "told", "fact", "stretch"]) (sc := { kind := ScopeKind.function, names := [((".0" : Str), NameKind.local), (("fact" : Str), NameKind.cell), (("any" : Str), NameKind.globalImplicit), (("stretches" : Str), NameKind.cell)], isGenerator := false, isCoroutine := false }) (by decide +kernel)) (fun _ _ _ _ _ => pg_name (i := 7) scRead.nd rfl (Or.inl rfl)) (fun _ _ _ _ _ => pts_nil) (fun _ _ _ _ _ => (pe_df DIn hr (by decide) (pa_cons (pv 7) (pa_cons (pv 6) pa_nil))))) pa_nil)))) (fun _ _ _ _ _ => (pv 6)))
      (pss_one (ps_ret (pe_callTy (r := rTupOf K) call_tuple_of (by rfl) M.tuple (by decide +kernel) (pa_cons (pv 5) pa_nil)))))))))), ?_⟩
  have zl := trFacts_len t
  have zt := ht.z
  refine ⟨_, rfl, .int p, .int p, rfl, .int p, (pr_ok hp).1, (pr_ok hp).2, fun H1 s1 => ?_⟩
  refine ⟨_, rfl, rv, n, m, rfl, hroot.same s1, fun H2 s2 => ?_⟩
  refine ⟨_, rfl, _, rfl, p, v, t, rfl, hp, (hd.same s1).same s2, ht, fun a H3 s3 part => ?_⟩
  have s13 := (s1.trans s2).trans s3
  refine ⟨_, rfl, sv, d, ts, rfl, hsv.same s13, hts, fun H4 s4 => ?_⟩
  have s14 := s13.trans s4
  have part4 := part.kt (kt_same s4)
  obtain ⟨dx, fs, ha, lm, ln⟩ := part_f part4 ht.nc
  obtain ⟨R, rfl, hR, _⟩ := hroot
  refine ⟨.ref a, rfl, a, CP, dx, fs, _, rfl, ha, hC, nu, ln, .ref a, rfl, a, CP, dx, fs, _, rfl, ha, hC, nM, lm, by rw [sizeLine_eq]; exact (by decide : 2 ≤ 16777216), fun T nT => ?_⟩
  have s5 := same_up (o := .tup [V.int (trNum p t), .int (trMany t : Int)]) nT
  have e5 : upd H4 T (.tup [V.int (trNum p t), .int (trMany t : Int)]) T = some (.tup [V.int (trNum p t), .int (trMany t : Int)]) := upd_same
  generalize upd H4 T (.tup [V.int (trNum p t), .int (trMany t : Int)]) = H5 at s5 e5 ⊢
  have s15 := s14.trans s5
  refine ⟨_, rfl, [.int (trNum p t), .int (trMany t : Int)], [.int n, .int m], .tup (.inl e5) (.cons (.int _) (.cons (.int _) .nil)), .tup (hR.same s15) (.cons (.int _) (.cons (.int _) .nil)), by simp [keyTs, keyT], by simp [keyTs, keyT], by simp [dpDs, dpD], by simp [dpDs, dpD], _, rfl, ?_⟩
  have eqs : eqDs [PyData.int (trNum p t), .int (trMany t : Int)] [.int n, .int m] = true ↔ n = trNum p t ∧ m = (trMany t : Int) := by
    simp [eqDs, eqD]
    omega
  refine tst (fun e => ?_) fun e => ?_
  · refine q .non H5 s15 (.inl ⟨rfl, fun h => ?_⟩)
    rw [eqs.mpr h] at e
    cases e
  have same : n = trNum p t ∧ m = (trMany t : Int) := eqs.mp (by
    cases h : eqDs [PyData.int (trNum p t), .int (trMany t : Int)] [.int n, .int m] with
    | true => rfl
    | false => rw [h] at e; cases e)
  refine ⟨_, rfl, _, rfl, p, a, t, .non, .non, sv, none, none, d, ts, rfl, part4.kt (kt_same s5), ht.ok, ht.z, .non, .non, (fun _ e => nomatch e), (fun _ e => nomatch e), hsv.same s15, hts, fun H6 s6 => ⟨_, rfl, tst (fun e => ?_) fun e => ?_⟩⟩
  · refine q .non H6 (s15.trans s6) (.inl ⟨rfl, fun _ => ?_⟩)
    cases h : enough ts t none none with
    | true => rw [h] at e; cases e
    | false => rfl
  · have en : enough ts t none none = true := by
      cases h : enough ts t none none with
      | true => rfl
      | false => rw [h] at e; cases e
    have s16 := s15.trans s6
    refine ⟨_, rfl, p, v, t, rfl, hd.same s16, ht.ok, ht.z, fun L ys H7 s7 hL hys => ⟨L, rfl, ⟨_, SqL.of hL⟩, fun D hD => ?_⟩⟩
    have s17 := s16.trans s7
    obtain ⟨rfl, hz, hn⟩ := hts
    obtain ⟨sa, xs, rfl, hs1, hs2⟩ := ofTup (hsv.same s17)
    have filt : ∀ d (l : List PyData), inAny ts (l ++ [d]) = inAny ts l ++ (if (ts.any fun t => decide (sideF t d = 0)) = true then [d] else []) := fun d l => by
      unfold inAny
      rw [List.filter_append]
      congr 1
      simp only [List.filter_cons, List.filter_nil]
    refine lc_list (xs := ys) (fun i H' => Same H7 H' ∧ ∃ zs, H' D = some (.lst zs) ∧ DdAll K H' zs (inAny ts ((trFacts t).take i))) ⟨same_up hD, [], upd_same, .nil⟩ (fun i H' _ e => Same.seq e.1 (SqL.of hL)) (fun i x H' hx e => ?_) (fun H8 e => ?_)
    · obtain ⟨sH, zs, hy, hzs⟩ := e
      obtain ⟨fd', he, hdd⟩ := dall_at' hys hx
      have dm := List.mem_of_getElem? he
      have il : i < (trFacts t).length := (List.getElem?_eq_some_iff.mp he).1
      have hfd := ht.f fd' dm
      refine ⟨rfl, ?_⟩
      refine any_tup2 (α := Stt) (p := fun u => decide (sideF u fd' = 0)) (f := Stt.d) (ts := ts) (i := 3) (j := 7) (H := H') (a := sa) (fun Q' q' => ⟨_, rfl, q'⟩) (hs1.same sH).sq (DdAll.same sH hs2) hz (fun _ => rfl) (fun v' u H9 Q' m' s9 hd' q' => ?_) fun H9 s9 => ⟨_, rfl, ?_⟩
      · exact ⟨_, rfl, _, rfl, v', x, u, fd', rfl, hd', hn u m', (hdd.same sH).same s9, hfd, q'⟩
      · refine tst (fun c => ?_) fun c => ?_
        · refine ⟨_, rfl, zs, s9 _ _ hy, ?_, same_updN (sH.trans s9) hD, zs ++ [x], upd_same, ?_⟩
          · have := ddAll_len hzs
            have := List.length_filter_le (fun d => ts.any fun t => decide (sideF t d = 0)) ((trFacts t).take i)
            unfold inAny at *
            rw [List.length_take] at this
            rw [sizeLine_eq]
            omega
          · have kD := kt_upd (CP := 0) (u := .lst (zs ++ [x])) (s9 _ _ hy) (fun e => e)
            rw [take_snoc he, filt, if_pos c]
            refine dds_kt kD (keyTs_all.mpr fun z hz => ?_) (ddAll_snoc (DdAll.same s9 hzs) ((hdd.same sH).same s9))
            rcases List.mem_append.mp hz with hz | hz
            · have := List.mem_of_mem_take (List.mem_filter.mp hz).1
              have := ht.f z this
              exact (fact_key this.1 this.2).2
            · rw [List.mem_singleton.mp hz]
              exact (fact_key hfd.1 hfd.2).2
        · refine ⟨sH.trans s9, zs, s9 _ _ hy, ?_⟩
          rw [take_snoc he, filt, if_neg (by rw [c]; exact Bool.false_ne_true), List.append_nil]
          exact DdAll.same s9 hzs
    · obtain ⟨sH, zs, hy, hzs⟩ := e
      rw [dall_len hys, List.take_of_length_le (Nat.le_refl _)] at hzs
      exact ⟨_, rfl, D, zs, rfl, .inl ⟨SqL.of hy, fun T2 nT2 => q _ _ ((s17.trans sH).trans (same_up nT2)) (.inr ⟨same, en, .tup (.inl upd_same) (DdAll.same (same_up nT2) hzs)⟩)⟩⟩
end
end Sm
/-! _law_told_facts, _law_is_hidden, _law_due. -/
namespace Sm
open PySem PySem.Spec PyProof.Rows L2 Vd RZ
section
variable {P : Program} {w : World} {K : PySem.W.Frag} {mg : Str → Option Value} {base : Heap}
theorem scLTold : FnScope ["showing", "found", "at", "child"] ["showing"] (defScope sLTold) := ⟨rfl, rfl, rfl, by decide +kernel, rfl, by decide +kernel, by decide +kernel⟩
def spLTold (K : PySem.W.Frag) : Nat → Sp
  | 0 => fun _ _ _ _ => False
  | k + 1 => fun vs H Q _ => ∃ (p : Int) (v : V) (t : Tr), vs = [v] ∧ Dd K H v (shD t) ∧ ShOk p k t ∧ trMany t ≤ 3000 ∧ ∀ u H', Same H H' → Dd K H' u (.tuple (trFacts t)) → Q u H'
theorem ok_ltold {f : Addr} {fd : FuncData} (F : FnP K "_law_told_facts" sLTold f fd) (hm : mg "_law_told_facts" = some (.ref f)) (hk : PySem.W.keepIn K (.ref f) = true) (hb : Binds K fd ["showing"] []) (M : Nm mg) (M2 : Nm2 mg) : ∀ k, FnOk P w K mg base CX0 k f fd ["showing"] (spLTold K k)
  | 0 => ⟨fun vs H Q E h => h.elim, fun A outer s H args us vs Q E hr e0 hb' r h => h.elim⟩
  | n + 1 => by
    have DS : Df P w K mg base "_law_told_facts" n ["showing"] (spLTold K n) := ⟨f, fd, hm, hk, hb, ok_ltold F hm hk hb M M2 n⟩
    refine F.ok scLTold (fun vs H Q E h => ?_) (fun cdv A outer s H vs Q E hr h => ?_)
    · obtain ⟨p, v, t, rfl, _⟩ := h
      rfl
    obtain ⟨p, v, t, rfl, hd, ht, zt, q⟩ := h
    refine ⟨_, PSs.nox (pss_cons (ps_if (pt_cmpR op_ne (pe_ix (r := rIxT K) ix_tup (pv 0) pe_int (fun _ _ => rfl)) pe_str (nomark _)) (pss_one (ps_ret (pe_ifExp (pt_cmpR op_eq (pe_ix (r := rIxT K) ix_tup (pv 0) pe_int (fun _ _ => rfl)) pe_str (nomark _)) (pe_ix (r := rIxT K) ix_tup (pv 0) pe_int (fun _ _ => rfl)) (pe_tup pa_nil)))) pss_nil)
      (pss_cons (ps_set (i := 1) scLTold.nd rfl (Or.inl rfl) (pe_tup pa_nil))
      (pss_cons (ps_for PassesOwn.never rfl (pi_enumT (by rfl) M2.enumerate (pa_cons (pe_ix (r := rIxT K) ix_tup (pv 0) pe_int (fun _ _ => rfl)) pa_nil)) (pg_tup rfl (pgs_cons (pg_name (i := 2) scLTold.nd rfl (Or.inl rfl)) (pgs_cons (pg_name (i := 3) scLTold.nd rfl (Or.inl rfl)) pgs_nil))) (pss_one (ps_set (i := 1) scLTold.nd rfl (Or.inl rfl) (pe_op (r := rCatA K) op_catA (pe_op (r := rCatA K) op_catA (pv 1) (pe_df DS hr (Nat.le_refl _) (pa_cons (pv 3) pa_nil))) (pe_callTy (r := rTupOf K) call_tuple_of (by rfl) M.tuple (by decide +kernel) (pa_cons (pe_slice (r := rSlA K) sl_tupA (pe_ix (r := rIxT K) ix_tup (pv 0) pe_int (fun _ _ => rfl)) (po_some (pv 2)) (po_some (pe_op op_add (pv 2) pe_int))) pa_nil))))))
      (pss_one (ps_ret (pv 1)))))), ?_⟩
    rcases sh_cases ht with ⟨n0, m, rfl, _, _, es⟩ | ⟨own, rfl, hf, hr0, es⟩ | ⟨r, c, cs, own, rfl, hr1, hf, hne, hl, hro, hcs, es⟩
    · rw [es] at hd
      obtain ⟨a, xs, rfl, ha, h2⟩ := ofTup hd
      cases h2 with
      | cons g0 h2 =>
        cases g0
        refine ⟨_, rfl, a, _, 0, _, rfl, rfl, ha.sq, atI_nat (j := 0) rfl, rfl, _, rfl, iteT ?_⟩
        refine ⟨_, rfl, a, _, 0, _, rfl, rfl, ha.sq, atI_nat (j := 0) rfl, rfl, _, rfl, iteF ?_⟩
        refine ⟨by rw [sizeLine_eq]; decide, fun T nT => q _ _ (same_up nT) ?_⟩
        unfold trFacts
        exact .tup (.inl upd_same) .nil
    · rw [es] at hd
      obtain ⟨a, xs, rfl, ha, h2⟩ := ofTup hd
      cases h2 with
      | cons g0 h2 => cases h2 with
        | cons g1 h2 =>
          cases h2
          cases g0
          refine ⟨_, rfl, a, _, 0, _, rfl, rfl, ha.sq, atI_nat (j := 0) rfl, rfl, _, rfl, iteT ?_⟩
          refine ⟨_, rfl, a, _, 0, _, rfl, rfl, ha.sq, atI_nat (j := 0) rfl, rfl, _, rfl, iteT ?_⟩
          exact ⟨_, rfl, a, _, 1, _, rfl, rfl, ha.sq, atI_nat (j := 1) rfl, q _ H (Same.refl H) g1⟩
    · rw [es] at hd
      obtain ⟨n', rfl⟩ : ∃ n', n = n' + 1 := ⟨n - 1, by omega⟩
      have zo := many_own (cs := c :: cs) (own := own)
      have e1 : trFacts (.mk (c :: cs) own) = trFs (c :: cs) own := by
        conv => lhs; unfold trFacts
        rfl
      rw [e1] at q
      obtain ⟨a, xs, rfl, ha, h2⟩ := ofTup hd
      cases h2 with
      | cons g0 h2 => cases h2 with
        | cons g1 h2 => cases h2 with
          | cons g2 h2 =>
            cases h2
            cases g0
            obtain ⟨ca, cv, rfl, hca, hcd⟩ := ofTup g1
            obtain ⟨wa, ov, rfl, hwa, hwd⟩ := ofTup g2
            have lcv := dall_len hcd
            rw [List.length_map] at lcv
            have lov := dall_len hwd
            have pre_len : ∀ i, (trFs ((c :: cs).take i) own).length ≤ 3000 := fun i => by
              have h := trFs_len ((c :: cs).take i) own
              have h2 : trManys ((c :: cs).take i) ≤ trManys (c :: cs) := manys_take _ _
              have e : trMany (.mk (c :: cs) own) = own.length + trManys (c :: cs) := by
                conv => lhs; unfold trMany
              omega
            refine ⟨_, rfl, a, _, 0, _, rfl, rfl, ha.sq, atI_nat (j := 0) rfl, rfl, _, rfl, iteF ?_⟩
            refine ⟨by rw [sizeLine_eq]; decide, fun L nL => ?_⟩
            have s1 : Same H (upd H L (.tup [])) := same_up nL
            have e2 : upd H L (.tup []) L = some (.tup []) := upd_same
            generalize upd H L (.tup []) = H1 at s1 e2 ⊢
            refine ⟨_, rfl, a, _, 1, _, rfl, rfl, (ha.same s1).sq, atI_nat (j := 1) rfl, ca, cv, rfl, (hca.same s1).sq, ?_⟩
            refine for_enumT (xs := cv) (fun i σ H' => Same H H' ∧ ∃ (F' : V) (z1 z2 : Option V), σ = [some (.ref a), some F', z1, z2] ∧ Dd K H' F' (.tuple (trFs ((c :: cs).take i) own)))
              ⟨s1, _, none, none, rfl, by rw [List.take_zero]; unfold trFs; exact .tup (.inl e2) .nil⟩ (fun i σ H' z => (hca.same z.1).sq) (fun i x T σ H' hx z nT => ?_) (fun σ H' z => ?_)
            · obtain ⟨s2, F', z1, z2, rfl, hF⟩ := z
              obtain ⟨dd, hd1, hd2⟩ := dall_at' hcd hx
              rw [List.getElem?_map] at hd1
              obtain ⟨t, ht1, rfl⟩ := Option.map_eq_some_iff.mp hd1
              have tm := List.mem_of_getElem? ht1
              have mk := many_kid (own := own) tm
              have sT : Same H' (upd H' T (.tup [V.int (i : Nat), x])) := same_up nT
              have s3 := s2.trans sT
              have hF3 := hF.same sT
              refine ⟨T, _, rfl, .inl (.inl upd_same), rfl, .int (i : Nat), [x], rfl, x, [], rfl, rfl, ?_⟩
              generalize upd H' T (.tup [V.int (i : Nat), x]) = H3 at s3 hF3 ⊢
              refine ⟨_, rfl, _, rfl, p, x, t, rfl, hd2.same s3, (hcs t tm).mono (by omega), by omega, fun u H4 s4 hu => ?_⟩
              obtain ⟨fa, fx, rfl, hfa, hfd⟩ := ofTup (hF3.same s4)
              obtain ⟨ua, ux, rfl, hua, hud⟩ := ofTup hu
              have l1 := dall_len hfd
              have l2 := dall_len hud
              have l3 := pre_len i
              have l4 := trFacts_len t
              refine cat_any hfa hua (by rw [sizeLine_eq]; omega) fun T2 H5 s5 hT2 => ?_
              have s35 := (s3.trans s4).trans s5
              refine ⟨_, rfl, a, _, 2, _, rfl, rfl, (ha.same s35).sq, atI_nat (j := 2) rfl, _, rfl, _, rfl, _, rfl, _, _, rfl, rfl, _, rfl, one_any (i := i) (hwa.same s35) fun T3 H6 s6 hT3 => ?_⟩
              refine ⟨T3, _, rfl, .inr ⟨hT3.sq, ?_⟩⟩
              refine cat_any (hT2.same s6) hT3 (by rw [List.length_append, sizeLine_eq, List.length_take]; omega) fun T4 H7 s7 hT4 => ?_
              refine ⟨(s35.trans s6).trans s7, _, _, _, rfl, ?_⟩
              rw [trFs_step (c :: cs) own i t ht1, ← List.append_assoc]
              have s57 := (s5.trans s6).trans s7
              exact .tup hT4 (dall_app (dall_app (DdAll.same s57 hfd) (DdAll.same s57 hud)) (dall_take _ (dall_drop _ (DdAll.same ((s35.trans s6).trans s7) hwd))))
            · obtain ⟨s2, F', z1, z2, rfl, hF⟩ := z
              rw [List.take_of_length_le (by omega)] at hF
              exact ⟨_, rfl, q _ H' s2 hF⟩
end
end Sm
/-! _law_is_hidden, _law_due. -/
namespace L2
open PySem PySem.Spec PyProof.Rows
theorem walk_enumT {K : PySem.W.Frag} {a : Addr} {xs : List V} : Walk (IteT K a) xs.length (fun H => SqT K H a xs) (YPair (fun i => some (.int (i : Nat))) (fun i => xs[i]?)) := by
  refine ⟨fun i _ hi q => ⟨xs, xs[i], q, by simp [hi]⟩, fun _ q => ⟨xs, q, Nat.le_refl _⟩, fun i H v H' _ q y => ?_⟩
  obtain ⟨T, x, h1, h2, h3, h4⟩ := y
  exact ⟨T, .int (i : Nat), x, h1, h2, h3, rfl, h4 xs q⟩
end L2
namespace Sm
open PySem PySem.Spec PyProof.Rows L2 Vd RZ
section
variable {P : Program} {w : World} {K : PySem.W.Frag} {mg : Str → Option Value} {base : Heap}
theorem scHidden : FnScope ["showing", "place", "stretches", "edges", "at", "child"] ["showing", "place", "stretches"] (defScope sHidden) := ⟨rfl, rfl, rfl, by decide +kernel, rfl, by decide +kernel, by decide +kernel⟩
def spHidden (K : PySem.W.Frag) : Nat → Sp
  | 0 => fun _ _ _ _ => False
  | k + 1 => fun vs H Q _ => ∃ (p : Int) (v pl sv : V) (t : Tr) (oa ob : Option PyData) (d : PyData) (ts : List Stt), vs = [v, pl, sv] ∧ Dd K H v (shD t) ∧ ShOk p k t ∧ trMany t ≤ 3000 ∧ PlaceAt K H pl oa ob ∧ Dd K H sv d ∧ StrsK d ts ∧ ∀ H', Same H H' → Q (.bl (!enough ts t oa ob)) H'
theorem le4 {j n : Nat} (h : j ≤ 4) : j ≤ Nat.add 4 n := Nat.le_trans h (Nat.le_add_right 4 n)
theorem all_not (bs : List Bool) : ((bs.map fun b => !b).any id) = !(bs.all id) := by
  induction bs with
  | nil => rfl
  | cons b r ih =>
    rw [List.map_cons, List.any_cons, List.all_cons, ih]
    cases b <;> simp
theorem ok_hidden {f : Addr} {fd : FuncData} (F : FnP K "_law_is_hidden" sHidden f fd) (hm : mg "_law_is_hidden" = some (.ref f)) (hk : PySem.W.keepIn K (.ref f) = true) (hb : Binds K fd ["showing", "place", "stretches"] []) (M : Nm mg) (M2 : Nm2 mg) (hany : mg "any" = none) (DCl : Df P w K mg base "_law_is_closed" 3 ["place", "stretches"] (spClosed K)) : ∀ k, FnOk P w K mg base CX0 (4 + k) f fd ["showing", "place", "stretches"] (spHidden K k)
  | 0 => ⟨fun vs H Q E h => h.elim, fun A outer s H args us vs Q E hr e0 hb' r h => h.elim⟩
  | n + 1 => by
    have DS : Df P w K mg base "_law_is_hidden" (4 + n) ["showing", "place", "stretches"] (spHidden K n) := ⟨f, fd, hm, hk, hb, ok_hidden F hm hk hb M M2 hany DCl n⟩
    refine F.ok scHidden (fun vs H Q E h => ?_) (fun cdv A outer s H vs Q E hr h => ?_)
    · obtain ⟨p, v, pl, sv, t, oa, ob, d, ts, rfl, _⟩ := h
      rfl
    obtain ⟨p, v, pl, sv, t, oa, ob, d, ts, rfl, hd, ht, zt, hpl, hsv, hts, q⟩ := h
    refine ⟨_, PSs.nox (pss_cons (ps_if (pt_cmpR op_eq (pe_ix (r := rIxT K) ix_tup (pv 0) pe_int (fun _ _ => rfl)) pe_str (nomark _)) (pss_one (ps_ret (pe_not (pe_df DCl hr (le4 (by decide)) (pa_cons (pv 1) (pa_cons (pv 2) pa_nil)))))) pss_nil)
      (pss_cons (ps_if (pt_cmpR op_eq (pe_ix (r := rIxT K) ix_tup (pv 0) pe_int (fun _ _ => rfl)) pe_str (nomark _)) (pss_one (ps_ret pe_bl)) pss_nil)
      (pss_cons (ps_set (i := 3) scHidden.nd rfl (Or.inr rfl) (pe_op op_cat (pe_op op_cat (pe_lst (pa_cons (pe_ix (r := rIxT K) ix_tup (pv 1) pe_int (fun _ _ => rfl)) pa_nil)) (pe_callTy (r := rLof K) call_lof (by rfl) M.list (by decide +kernel) (pa_cons (pe_ix (r := rIxT K) ix_tup (pv 0) pe_int (fun _ _ => rfl)) pa_nil))) (pe_lst (pa_cons (pe_ix (r := rIxT K) ix_tup (pv 1) pe_int (fun _ _ => rfl)) pa_nil))))
      (pss_one (ps_ret (pe_callB (r := rAny K) (cr_any rfl) (by rfl) hany (by decide +kernel) (pa_cons (pe_lc (own := [("at", 4), ("child", 5)]) (g := gTup K 2 (gCons (gName 4) (gCons (gName 5) gNil))) (tt := tYes) (by rfl) scHidden.nd (pi_enumT (by rfl) M2.enumerate (pa_cons (pe_ix (r := rIxT K) ix_tup (pv 0) pe_int (fun _ _ => rfl)) pa_nil)) (blkOk_by (N := ["showing", "place", "stretches", "edges", "at", "child"]) (sc := defScope sHidden) (by decide +kernel)) (fun _ _ _ _ _ => (pg_tup rfl (pgs_cons (pg_name (i := 4) scHidden.nd rfl (Or.inl rfl)) (pgs_cons (pg_name (i := 5) scHidden.nd rfl (Or.inl rfl)) pgs_nil)))) (fun _ _ _ _ _ => pts_nil) (fun _ _ _ _ _ => (pe_df DS hr (Nat.le_refl _) (pa_cons (pv 5) (pa_cons (pe_tup (pa_cons (pe_ix (r := rIxL K) ix_list (pv 3) (pv 4) (fun _ _ => rfl)) (pa_cons (pe_ix (r := rIxL K) ix_list (pv 3) (pe_op op_add (pv 4) pe_int) (fun _ _ => rfl)) pa_nil))) (pa_cons (pv 2) pa_nil)))))) pa_nil))))))), ?_⟩
    have hpl0 := hpl
    obtain ⟨T, x, y, rfl, hT, hx, hy, ka, kb⟩ := hpl
    rcases sh_cases ht with ⟨n0, m, rfl, _, _, es⟩ | ⟨own, rfl, hf, hr0, es⟩ | ⟨r, c, cs, own, rfl, hr1, hf, hne, hl, hro, hcs, es⟩
    · rw [es] at hd
      obtain ⟨a, xs, rfl, ha, h2⟩ := ofTup hd
      unfold enough at q
      cases h2 with
      | cons g0 h2 =>
        cases g0
        refine ⟨_, rfl, a, _, 0, _, rfl, rfl, ha.sq, atI_nat (j := 0) rfl, rfl, _, rfl, iteT ?_⟩
        exact ⟨_, rfl, _, rfl, _, sv, d, ts, oa, ob, rfl, hpl0, hsv, hts, fun H1 s1 => ⟨_, rfl, q H1 s1⟩⟩
    · rw [es] at hd
      obtain ⟨a, xs, rfl, ha, h2⟩ := ofTup hd
      unfold enough enoughL at q
      cases h2 with
      | cons g0 h2 =>
        cases g0
        refine ⟨_, rfl, a, _, 0, _, rfl, rfl, ha.sq, atI_nat (j := 0) rfl, rfl, _, rfl, iteF ?_⟩
        exact ⟨_, rfl, a, _, 0, _, rfl, rfl, ha.sq, atI_nat (j := 0) rfl, rfl, _, rfl, iteT (q H (Same.refl H))⟩
    · rw [es] at hd
      obtain ⟨n', rfl⟩ : ∃ n', n = n' + 1 := ⟨n - 1, by omega⟩
      have zo := many_own (cs := c :: cs) (own := own)
      have Ll := enoughL_len ts (c :: cs) oa own ob
      have La := enoughL_at ts (c :: cs) oa own ob
      unfold enough at q
      generalize enoughL ts (c :: cs) oa own ob = bs at Ll La q
      have ofo : ∀ z ∈ oa :: (own.map some ++ [ob]), OF z := fun z hz => by
        simp only [List.mem_cons, List.mem_append, List.mem_map, List.not_mem_nil, or_false] at hz
        rcases hz with rfl | ⟨e, he, rfl⟩ | rfl
        · exact ka
        · intro d hd
          cases hd
          exact hf e he
        · exact kb
      obtain ⟨a, xs, rfl, ha, h2⟩ := ofTup hd
      cases h2 with
      | cons g0 h2 => cases h2 with
        | cons g1 h2 => cases h2 with
          | cons g2 h2 =>
            cases h2
            cases g0
            obtain ⟨ca, cv, rfl, hca, hcd⟩ := ofTup g1
            obtain ⟨wa, os, rfl, hoa, hod⟩ := ofTup g2
            have lcv := dall_len hcd
            rw [List.length_map] at lcv
            have los := dall_len hod
            have hbn : DdAll K H (x :: (os ++ [y])) ((oa :: (own.map some ++ [ob])).map odD) := by
              have h := DdAll.cons hx (ddAll_snoc hod hy)
              have e : (oa :: (own.map some ++ [ob])).map odD = odD oa :: (own ++ [odD ob]) := by
                simp [Function.comp_def, odD]
              rw [e]
              exact h
            refine ⟨_, rfl, a, _, 0, _, rfl, rfl, ha.sq, atI_nat (j := 0) rfl, rfl, _, rfl, iteF ?_⟩
            refine ⟨_, rfl, a, _, 0, _, rfl, rfl, ha.sq, atI_nat (j := 0) rfl, rfl, _, rfl, iteF ?_⟩
            refine ⟨_, rfl, T, _, 0, x, rfl, rfl, hT.sq, atI_nat (j := 0) rfl, (by rw [sizeLine_eq]; exact (by decide : 1 ≤ 16777216)), fun l0 n0 => ?_⟩
            have s0 : Same H (upd H l0 (.lst [x])) := same_up n0
            have e0 : upd H l0 (.lst [x]) l0 = some (.lst [x]) := upd_same
            generalize upd H l0 (.lst [x]) = H2 at s0 e0 ⊢
            refine ⟨_, rfl, a, _, 2, _, rfl, rfl, (ha.same s0).sq, atI_nat (j := 2) rfl, wa, os, rfl, .inr (hoa.same s0).sq, fun l1 n1 => ?_⟩
            have s1' : Same H2 (upd H2 l1 (.lst os)) := same_up n1
            refine ⟨l0, l1, _, _, rfl, rfl, s1' _ _ e0, upd_same, by simp [sizeLine_eq]; omega, fun l2 n2 => ?_⟩
            have s2 : Same H (upd (upd H2 l1 (.lst os)) l2 (.lst ([x] ++ os))) := (s0.trans s1').trans (same_up n2)
            have e2 : upd (upd H2 l1 (.lst os)) l2 (.lst ([x] ++ os)) l2 = some (.lst ([x] ++ os)) := upd_same
            generalize upd (upd H2 l1 (.lst os)) l2 (.lst ([x] ++ os)) = H3 at s2 e2 ⊢
            refine ⟨_, rfl, T, _, 1, y, rfl, rfl, (hT.same s2).sq, atI_nat (j := 1) rfl, (by rw [sizeLine_eq]; exact (by decide : 1 ≤ 16777216)), fun l3 n3 => ?_⟩
            refine ⟨l2, l3, _, _, rfl, rfl, same_up n3 _ _ e2, upd_same, by simp [sizeLine_eq]; omega, fun E' n4 => ?_⟩
            have s4 : Same H (upd (upd H3 l3 (.lst [y])) E' (.lst ([x] ++ os ++ [y]))) := (s2.trans (same_up n3)).trans (same_up n4)
            have e4 : upd (upd H3 l3 (.lst [y])) E' (.lst ([x] ++ os ++ [y])) E' = some (.lst (x :: (os ++ [y]))) := by
              rw [upd_same]
              simp
            generalize upd (upd H3 l3 (.lst [y])) E' (.lst ([x] ++ os ++ [y])) = H4 at s4 e4 ⊢
            refine ⟨_, rfl, a, _, 1, _, rfl, rfl, (ha.same s4).sq, atI_nat (j := 1) rfl, ca, cv, rfl, (hca.same s4).sq, fun D hD => ?_⟩
            refine lc_it (walk_enumT (K := K) (a := ca) (xs := cv)) (fun i H' => Same H4 H' ∧ H' D = some (.lst (((bs.map fun b => !b).take i).map V.bl))) ⟨same_up hD, upd_same⟩ (fun i H' _ e => ((hca.same s4).same e.1).sq) (fun i z H5 H' hi e yy => ?_) (fun H5 e => ?_)
            · obtain ⟨s5, hy5⟩ := e
              obtain ⟨T', w1, w2, rfl, nT, rfl, h1, hx'⟩ := yy
              cases h1
              obtain ⟨dd, hd1, hd2⟩ := dall_at' hcd hx'
              rw [List.getElem?_map] at hd1
              obtain ⟨u, hu1, rfl⟩ := Option.map_eq_some_iff.mp hd1
              have um := List.mem_of_getElem? hu1
              have mk := many_kid (own := own) um
              obtain ⟨bx, hbx⟩ : ∃ b, (x :: (os ++ [y]))[i]? = some b := ⟨_, List.getElem?_eq_getElem (by simp; omega)⟩
              obtain ⟨by', hby⟩ : ∃ b, (x :: (os ++ [y]))[i + 1]? = some b := ⟨_, List.getElem?_eq_getElem (by simp; omega)⟩
              obtain ⟨dx', hdx1, hdx2⟩ := dall_at' hbn hbx
              obtain ⟨dy', hdy1, hdy2⟩ := dall_at' hbn hby
              rw [List.getElem?_map] at hdx1 hdy1
              obtain ⟨pa, hpa, rfl⟩ := Option.map_eq_some_iff.mp hdx1
              obtain ⟨pb, hpb, rfl⟩ := Option.map_eq_some_iff.mp hdy1
              have fpa : OF pa := ofo pa (List.mem_of_getElem? hpa)
              have fpb : OF pb := ofo pb (List.mem_of_getElem? hpb)
              have hbi := La i u pa pb (by omega) hu1 hpa (by simpa using hpb)
              have sT : Same H5 (upd H5 T' (.tup [V.int (i : Nat), w2])) := same_up nT
              have s6 := s4.trans (s5.trans sT)
              refine ⟨T', _, rfl, .inl (.inl upd_same), rfl, .int (i : Nat), [w2], rfl, w2, [], rfl, rfl, rfl, ?_⟩
              have hy6 := sT _ _ hy5
              have s56 := s5.trans sT
              generalize upd H5 T' (.tup [V.int (i : Nat), w2]) = H6 at sT s6 hy6 s56 ⊢
              refine ⟨_, rfl, _, rfl, _, rfl, E', _, (i : Int), bx, rfl, rfl, SqL.of (s56 _ _ e4), atI_nat hbx, _, rfl, _, rfl, _, _, rfl, rfl, E', _, ((i + 1 : Nat) : Int), by', rfl, rfl, SqL.of (s56 _ _ e4), atI_nat hby, by rw [sizeLine_eq]; exact (by decide : 2 ≤ 16777216), fun T3 nT3 => ?_⟩
              have s7 := same_up (o := .tup [bx, by']) nT3
              have s67 := s6.trans s7
              refine ⟨_, rfl, p, w2, .ref T3, sv, u, pa, pb, d, ts, rfl, hd2.same s67, (hcs u um).mono (by omega), by omega, ⟨T3, bx, by', rfl, .inl upd_same, hdx2.same s67, hdy2.same s67, fpa, fpb⟩, hsv.same s67, hts, fun H8 s8 => ⟨_, s8 _ _ (s7 _ _ hy6), ?_, same_updN ((s56.trans s7).trans s8) hD, ?_⟩⟩
              · rw [List.length_map, List.length_take, List.length_map, sizeLine_eq]
                omega
              · rw [upd_same, take_snoc (xs := bs.map fun b => !b) (x := !enough ts u pa pb) (by rw [List.getElem?_map, hbi]; rfl), List.map_append]
                rfl
            · obtain ⟨s5, hy5⟩ := e
              rw [List.take_of_length_le (by rw [List.length_map]; omega)] at hy5
              refine ⟨D, bs.map fun b => !b, rfl, SqL.of hy5, ?_⟩
              rw [all_not]
              exact q H5 (s4.trans s5)
end
end Sm
/-! _law_due; what is within stretches. -/
namespace Sm
open PySem PySem.Spec PyProof.Rows L2 Vd RZ
theorem in0 {α : Type} (ts : List α) (g : α → Int) : inV (.int 0) ((ts.map g).map V.int) = ts.any fun t => decide (g t = 0) := by
  unfold inV
  rw [List.map_map, List.any_map]
  rfl
theorem flat_ints (l : List Int) : (l.map V.int).all flatV = true := List.all_eq_true.mpr fun z hz => by
  obtain ⟨i, _, rfl⟩ := List.mem_map.mp hz
  rfl
/-- 0 in [number of one for one in t] -/
theorem in_tup2 {α : Type} {K : PySem.W.Frag} {a : Addr} {xs : List V} {f : α → PyData} {ts : List α} {g : α → Int} {j : Nat} {te : TE} {σ : L2.St} {H : Hp} {Q : Bool → Hp → Prop} {tp : TE} (htp : ∀ Q' : VK, Q' (.ref a) H → tp σ H Q') (h1 : SqT K H a xs) (hd : DdAll K H xs (ts.map f)) (hz : ts.length ≤ 4000) (hw : ∀ v, wipe ((wipe σ [j]).set j v) [j] = wipe σ [j])
    (hte : ∀ (v : V) (t : α) (H' : Hp) (Q : VK), t ∈ ts → Same H H' → Dd K H' v (f t) → (∀ H'', Same H' H'' → Q (.int (g t)) H'') → te ((wipe σ [j]).set j (some v)) H' Q) (q : ∀ H', Same H H' → Q (ts.any fun t => decide (g t = 0)) H') : tTest (tOp (rIn K false) (tC (.int 0)) (tLc (iTup K tp) (gName j) tYes te [j])) σ H Q := by
  have hx0 : xs.length = ts.length := by rw [dall_len hd, List.length_map]
  refine htp _ ⟨a, rfl, ⟨_, h1⟩, fun D hD => ?_⟩
  refine lc_tup (xs := xs) (fun i H' => Same H H' ∧ H' D = some (.lst (((ts.map g).take i).map V.int))) ⟨same_up hD, upd_same⟩ (fun i H' _ e => SqT.same e.1 h1) (fun i x H' hx e => ?_) (fun H1 e => ?_)
  · obtain ⟨d, he, hdd⟩ := dall_at' hd hx
    rw [List.getElem?_map] at he
    obtain ⟨t, ht, rfl⟩ := Option.map_eq_some_iff.mp he
    have il : i < ts.length := (List.getElem?_eq_some_iff.mp ht).1
    refine ⟨hw _, ?_⟩
    refine hte x t H' _ (List.mem_of_getElem? ht) e.1 (Dd.same e.1 hdd) fun H2 s2 => ⟨_, s2 _ _ e.2, ?_, same_updN (e.1.trans s2) hD, ?_⟩
    · rw [List.length_map, List.length_take, List.length_map, sizeLine_eq]
      omega
    · rw [upd_same, take_snoc (xs := ts.map g) (x := g t) (by rw [List.getElem?_map, ht]; rfl), List.map_append]
      rfl
  · have e2 := e.2
    rw [List.take_of_length_le (by rw [List.length_map]; omega)] at e2
    refine ⟨D, _, rfl, .inl (SqL.of e2), rfl, flat_ints _, _, rfl, ?_⟩
    show Q (inV (.int 0) ((ts.map g).map V.int)) H1
    rw [in0]
    exact q H1 e.1
/-- tuple([fact for fact in facts if 0 in [_law_side(fact, one) for one in stretches]]) -/
theorem within_tup {K : PySem.W.Frag} {σ : L2.St} {sa : Addr} {ys : List V} {ts : List Stt} {ds : List PyData} {m j s : Nat} {tp : TE} {Q : VK} {H0 : Hp} (htp : ∀ Q' : VK, (∀ a xs H, Same H0 H → TupN H a xs → DdAll K H xs ds → Q' (.ref a) H) → tp σ H0 Q') (hf : FactL ds) (hz : ds.length ≤ 4000) (hsa0 : TupN H0 sa ys) (hys0 : DdAll K H0 ys (ts.map Stt.d)) (hn : ∀ t ∈ ts, t.Ok) (hzt : ts.length ≤ 4000)
    (hs : ∀ v, ((wipe σ [m]).set m (some v))[s]? = some (some (V.ref sa))) (hw : ∀ v, wipe ((wipe σ [m]).set m v) [m] = wipe σ [m])
    (hw2 : ∀ v u, wipe ((wipe ((wipe σ [m]).set m (some v)) [j]).set j u) [j] = wipe ((wipe σ [m]).set m (some v)) [j])
    (hm : ∀ v u, ((wipe ((wipe σ [m]).set m (some v)) [j]).set j (some u))[m]? = some (some v)) (hj : ∀ v u, ((wipe ((wipe σ [m]).set m (some v)) [j]).set j (some u))[j]? = some (some u)) (hm2 : ∀ v, ((wipe σ [m]).set m (some v))[m]? = some (some v))
    (q : ∀ u H', Same H0 H' → Dd K H' u (.tuple (inAny ts ds)) → Q u H') :
    tCB (rTupOf K) (tCons (tLc (iTup K tp) (gName m) (tTest (tOp (rIn K false) (tC (.int 0)) (tLc (iTup K (tVar s)) (gName j) tYes (tCall (spSide K) [] E0 (tCons (tVar m) (tCons (tVar j) tNil))) [j]))) (tVar m) [m]) tNil) σ H0 Q := by
  have filt : ∀ d (l : List PyData), inAny ts (l ++ [d]) = inAny ts l ++ (if (ts.any fun t => decide (sideF t d = 0)) = true then [d] else []) := fun d l => by
    unfold inAny
    rw [List.filter_append]
    congr 1
    simp only [List.filter_cons, List.filter_nil]
  refine htp _ fun a xs H s0 h1 h2 => ?_
  have lx := dall_len h2
  have hsa := hsa0.same s0
  have hys := DdAll.same s0 hys0
  refine ⟨a, rfl, ⟨_, h1.sq⟩, fun D hD => ?_⟩
  refine lc_tup (xs := xs) (fun i H' => Same H H' ∧ ∃ zs, H' D = some (.lst zs) ∧ DdAll K H' zs (inAny ts (ds.take i))) ⟨same_up hD, [], upd_same, .nil⟩ (fun i H' _ e => (h1.same e.1).sq) (fun i x H' hx e => ?_) (fun H8 e => ?_)
  · obtain ⟨sH, zs, hy, hzs⟩ := e
    obtain ⟨fd', he, hdd⟩ := dall_at' h2 hx
    have dm := List.mem_of_getElem? he
    have il : i < ds.length := (List.getElem?_eq_some_iff.mp he).1
    have hfd := hf fd' dm
    refine ⟨hw _, ?_⟩
    refine in_tup2 (α := Stt) (g := fun u => sideF u fd') (f := Stt.d) (ts := ts) (j := j) (H := H') (a := sa) (fun Q' q' => ⟨_, hs x, q'⟩) (hsa.same sH).sq (DdAll.same sH hys) hzt (fun u => hw2 x u) (fun v' u H9 Q' m' s9 hd' q' => ?_) fun H9 s9 => ?_
    · exact ⟨_, hm x v', _, hj x v', x, v', u, fd', rfl, (hdd.same sH).same s9, hfd, hd', hn u m', q'⟩
    · refine tst (fun c => ?_) fun c => ?_
      · refine ⟨_, hm2 x, zs, s9 _ _ hy, ?_, same_updN (sH.trans s9) hD, zs ++ [x], upd_same, ?_⟩
        · have l1 := ddAll_len hzs
          have l2 : (inAny ts (ds.take i)).length ≤ (ds.take i).length := List.length_filter_le _ _
          rw [List.length_take] at l2
          rw [sizeLine_eq]
          omega
        · have kD := kt_upd (CP := 0) (u := .lst (zs ++ [x])) (s9 _ _ hy) (fun e => e)
          rw [take_snoc he, filt, if_pos c]
          refine dds_kt kD (keyTs_all.mpr fun z hz => ?_) (ddAll_snoc (DdAll.same s9 hzs) ((hdd.same sH).same s9))
          rcases List.mem_append.mp hz with hz | hz
          · have := hf z (List.mem_of_mem_take (List.mem_filter.mp hz).1)
            exact (fact_key this.1 this.2).2
          · rw [List.mem_singleton.mp hz]
            exact (fact_key hfd.1 hfd.2).2
      · refine ⟨sH.trans s9, zs, s9 _ _ hy, ?_⟩
        rw [take_snoc he, filt, if_neg (by rw [c]; exact Bool.false_ne_true), List.append_nil]
        exact DdAll.same s9 hzs
  · obtain ⟨sH, zs, hy, hzs⟩ := e
    rw [lx, List.take_of_length_le (Nat.le_refl _)] at hzs
    exact ⟨D, zs, rfl, .inl ⟨SqL.of hy, fun T2 nT2 => q _ _ ((s0.trans sH).trans (same_up nT2)) (.tup (.inl upd_same) (DdAll.same (same_up nT2) hzs))⟩⟩
section
variable {P : Program} {w : World} {K : PySem.W.Frag} {mg : Str → Option Value} {base : Heap}
theorem scLDue : FnScope ["showing", "stretches", "fact", "one"] ["showing", "stretches"] (defScope sLDue) := ⟨rfl, rfl, rfl, by decide +kernel, rfl, by decide +kernel, by decide +kernel⟩
def spLDue (K : PySem.W.Frag) : Sp := fun vs H Q _ => ∃ (p : Int) (v sv : V) (t : Tr) (d : PyData) (ts : List Stt), vs = [v, sv] ∧ Dd K H v (shD t) ∧ ShR p t ∧ Dd K H sv d ∧ StrsK d ts ∧
  ∀ u H', Same H H' → ((enough ts t none none = false ∧ u = .non) ∨ (enough ts t none none = true ∧ Dd K H' u (.tuple (inAny ts (trFacts t))))) → Q u H'
theorem ok_ldue {f : Addr} {fd : FuncData} (F : FnP K "_law_due" sLDue f fd) (M : Nm mg) (DHi : Df P w K mg base "_law_is_hidden" 11 ["showing", "place", "stretches"] (spHidden K 7)) (DTo : Df P w K mg base "_law_told_facts" 7 ["showing"] (spLTold K 7)) (DSd : Df P w K mg base "_law_side" 2 ["fact", "stretch"] (spSide K)) : FnOk P w K mg base CX0 12 f fd ["showing", "stretches"] (spLDue K) := by
  refine F.ok scLDue (fun vs H Q E h => ?_) (fun cdv A outer s H vs Q E hr h => ?_)
  · obtain ⟨p, v, sv, t, d, ts, rfl, _⟩ := h
    rfl
  obtain ⟨p, v, sv, t, d, ts, rfl, hd, ht, hsv, hts, q⟩ := h
  refine ⟨_, PSs.nox (pss_cons (ps_if (pt_val (pe_df DHi hr (by decide) (pa_cons (pv 0) (pa_cons (pe_tup (pa_cons pe_non (pa_cons pe_non pa_nil))) (pa_cons (pv 1) pa_nil))))) (pss_one (ps_ret pe_non)) pss_nil)
      (pss_one (ps_ret (pe_callTy (r := rTupOf K) call_tuple_of (by rfl) M.tuple (by decide +kernel) (pa_cons (pe_lc (own := [("fact", 2)]) (g := gName 2) (tt := tTest (tOp (rIn K false) (tC (.int 0)) (tLc (iTup K (tVar 1)) (gName 3) tYes (tCall (spSide K) [] E0 (tCons (tVar 2) (tCons (tVar 3) tNil))) [3]))) (by rfl) scLDue.nd (pi_tup (pe_df DTo hr (by decide) (pa_cons (pv 0) pa_nil))) (blkOk_by (N := ["showing", "stretches", "fact", "one"]) (sc := defScope sLDue) (by decide +kernel)) (fun _ _ _ _ _ => pg_name (i := 2) scLDue.nd rfl (Or.inr rfl)) (fun _ _ _ _ _ => pts_one (pt_cmpR op_in_seq pe_int (pe_lc (own := [("one", 3)]) (g := gName 3) (tt := tYes) (by rfl) scLDue.nd (pi_tup (pv 1)) (blkOk_by (N := ["showing", "stretches", "fact", "one"]) (sc := { kind := ScopeKind.function, names := [((".0" : Str), NameKind.local), (("fact" : Str), NameKind.cell), (("stretches" : Str), NameKind.cell)], isGenerator := false, isCoroutine := false }) (by decide +kernel)) (fun _ _ _ _ _ => pg_name (i := 3) scLDue.nd rfl (Or.inl rfl)) (fun _ _ _ _ _ => pts_nil) (fun _ _ _ _ _ => (pe_df DSd hr (by decide) (pa_cons (pv 2) (pa_cons (pv 3) pa_nil))))) (by rfl))) (fun _ _ _ _ _ => (pv 2))) pa_nil))))), ?_⟩
  have zl := trFacts_len t
  have zt := ht.z
  refine ⟨_, rfl, by rw [sizeLine_eq]; exact (by decide : 2 ≤ 16777216), fun T nT => ?_⟩
  have s1 := same_up (o := .tup [V.non, .non]) nT
  refine ⟨_, rfl, p, v, .ref T, sv, t, none, none, d, ts, rfl, hd.same s1, ht.ok, ht.z, ⟨T, .non, .non, rfl, .inl upd_same, .non, .non, (fun _ e => nomatch e), (fun _ e => nomatch e)⟩, hsv.same s1, hts, fun H2 s2 => ⟨_, rfl, tst (fun e => ?_) fun e => ?_⟩⟩
  · refine q .non H2 (s1.trans s2) (.inl ⟨?_, rfl⟩)
    cases h : enough ts t none none with
    | true => rw [h] at e; cases e
    | false => rfl
  · have en : enough ts t none none = true := by
      cases h : enough ts t none none with
      | true => rfl
      | false => rw [h] at e; cases e
    have s12 := s1.trans s2
    obtain ⟨rfl, hz, hn⟩ := hts
    obtain ⟨sa, ys, rfl, hs1, hs2⟩ := ofTup (hsv.same s12)
    show tCB (rTupOf K) (tCons (tLc (iTup K (tCall (spLTold K 7) [] E0 (tCons (tVar 0) tNil))) (gName 2) _ (tVar 2) [2]) tNil) _ _ _
    refine within_tup (σ := [some v, some (.ref sa), none, none]) (ds := trFacts t) (m := 2) (j := 3) (s := 1) (fun Q' q' => ⟨_, rfl, p, v, t, rfl, hd.same s12, ht.ok, ht.z, fun u H3 s3 hu => ?_⟩) ht.f (by omega) hs1 hs2 hn hz (fun _ => rfl) (fun _ => rfl) (fun _ _ => rfl) (fun _ _ => rfl) (fun _ _ => rfl) (fun _ => rfl) (fun u H' s3 hu => q u H' (s12.trans s3) (.inr ⟨en, hu⟩))
    obtain ⟨ua, ux, rfl, h1, h2⟩ := ofTup hu
    exact q' ua ux H3 s3 h1 h2
end
end Sm
/-! _law_bound, _law_stretch, _law_stretches. -/
namespace Sm
open PySem PySem.Spec PyProof.Rows L2 Vd RZ
theorem ktK {a : Addr} {H H' : Hp} (l : Live a H) (k : Keep a H H') : Kt 0 H H' := by
  obtain ⟨xs, hl⟩ := l
  exact kt_keep hl (fun e => e) k
theorem okAll_of {ds : List PyData} (h : okAll ds = true) : ∀ d ∈ ds, okD d = true := by
  induction ds with
  | nil => exact fun d hd => (nomatch hd)
  | cons e r ih =>
    unfold okAll at h
    obtain ⟨h1, h2⟩ := Bool.and_eq_true_iff.mp h
    intro d hd
    rcases List.mem_cons.mp hd with rfl | hd
    · exact h1
    · exact ih h2 d hd
theorem name_worth {x : Str} (h : nameD (.str x) = true) : worthD (.str x) = true := by
  obtain ⟨h1, h2⟩ := Bool.and_eq_true_iff.mp (show ((decide (1 ≤ x.length) && decide (x.length ≤ 8)) && sgn 97 122 x) = true from h)
  obtain ⟨h3, h4⟩ := Bool.and_eq_true_iff.mp h1
  have h4 := of_decide_eq_true h4
  show (_ || (decide (x.length ≤ 20) && sgn 32 126 x)) = true
  rw [decide_eq_true (by omega), Bool.true_and]
  refine Bool.or_eq_true_iff.mpr (.inr ?_)
  unfold sgn at h2 ⊢
  rw [List.all_eq_true] at h2 ⊢
  intro c hc
  have := h2 c hc
  unfold rngB at this ⊢
  simp at this ⊢
  omega
/-- the row of a fact of which a bound is made -/
def cutR (m : Str) (ws : List PyData) : List PyData := if m = ("rule" : Str) then ws.take 1 else ws
theorem fact_cut {m : Str} {ws : List PyData} (o : okD (.tuple [.str m, .tuple ws]) = true) (h : factD (.tuple [.str m, .tuple ws]) = true) : RowB (cutR m ws) := by
  have o1 := okAll_of (ok_tup o).2 (.tuple ws) (by simp)
  have o2 := okAll_of (ok_tup o1).2
  obtain ⟨h1, h2⟩ := Bool.and_eq_true_iff.mp (show (nameD (.str m) && (if isR (.str m) = true then ruleD (.tuple ws) else rowD (.tuple ws))) = true from h)
  unfold cutR
  by_cases e : m = ("rule" : Str)
  · rw [show isR (.str m) = true from decide_eq_true e, if_pos rfl] at h2
    rw [if_pos e]
    match ws, h2, o2 with
    | [.str t, x], h2, o2 =>
      obtain ⟨h3, _⟩ := Bool.and_eq_true_iff.mp (show (nameD (.str t) && textD x) = true from h2)
      refine ⟨by simp, fun d hd => ?_⟩
      simp only [List.take_succ_cons, List.take_zero, List.mem_cons, List.not_mem_nil, or_false] at hd
      subst hd
      exact ⟨name_worth h3, o2 _ (by simp)⟩
    | [.none, x], h2, _ | [.bool _, x], h2, _ | [.int _, x], h2, _ | [.list _, x], h2, _ | [.tuple _, x], h2, _ | [.dict _, x], h2, _ =>
      have h2 : (false && textD x) = true := h2
      cases h2
    | [], h2, _ => cases h2
    | [_], h2, _ => cases h2
    | _ :: _ :: _ :: _, h2, _ => cases h2
  · rw [show isR (.str m) = false from decide_eq_false e, if_neg Bool.false_ne_true] at h2
    rw [if_neg e]
    obtain ⟨h3, h4⟩ := Bool.and_eq_true_iff.mp (show ((decide ((1 : Int) ≤ (ws.length : Int)) && decide ((ws.length : Int) ≤ 5)) && ws.all worthD) = true from h2)
    obtain ⟨_, h5⟩ := Bool.and_eq_true_iff.mp h3
    have h5 := of_decide_eq_true h5
    exact ⟨by omega, fun d hd => ⟨List.all_eq_true.mp h4 d hd, o2 d hd⟩⟩
theorem RowB.take {l : List PyData} (h : RowB l) (n : Nat) : RowB (l.take n) := ⟨by have := h.1; rw [List.length_take]; omega, fun x hx => h.2 x (List.mem_of_mem_take hx)⟩
theorem RowB.key {l : List PyData} (h : RowB l) : keyTs l = true := keyTs_worths h.f.2
theorem bd_kt {K : PySem.W.Frag} {H H' : Hp} {v : V} {o : Option (List PyData)} (h : Dd K H v (bdD o)) (ho : ∀ l, o = some l → RowB l) (k : Kt 0 H H') : Dd K H' v (bdD o) := by
  cases o with
  | none =>
    cases h
    exact .non
  | some l => exact dd_kt k (by unfold keyT; exact (ho l rfl).key) (show Dd K H v (.tuple l) from h)
theorem st_kt {K : PySem.W.Frag} {H H' : Hp} {v : V} {t : Stt} (h : Dd K H v t.d) (ht : t.Ok) (k : Kt 0 H H') : Dd K H' v t.d := by
  obtain ⟨p, xs, rfl, h0, h2⟩ := ofTup (show Dd K H v (.tuple [.str t.n, bdD t.lo, bdD t.hi]) from h)
  cases h2 with
  | cons a1 h2 => cases h2 with
    | cons a2 h2 => cases h2 with
      | cons a3 h2 =>
        cases h2
        cases a1
        exact .tup (TupN.kt h0 k) (.cons (.str _) (.cons (bd_kt a2 ht.lo k) (.cons (bd_kt a3 ht.hi k) .nil)))
theorem sts_kt {K : PySem.W.Frag} {H H' : Hp} (k : Kt 0 H H') : ∀ {ts : List Stt} {vs : List V}, (∀ t ∈ ts, t.Ok) → DdAll K H vs (ts.map Stt.d) → DdAll K H' vs (ts.map Stt.d)
  | [], vs, _, h => by
    cases h
    exact .nil
  | t :: r, vs, ht, h => by
    cases h with
    | cons h1 h2 => exact .cons (st_kt h1 (ht t List.mem_cons_self) k) (sts_kt k (fun u hu => ht u (List.mem_cons_of_mem _ hu)) h2)
section
variable {P : Program} {w : World} {K : PySem.W.Frag} {mg : Str → Option Value} {base : Heap}
def spSomeT (K : PySem.W.Frag) : Sp := fun vs H Q _ => ∃ (a c l : Addr) (xs : List V), vs = [.ref a, .ref l] ∧ HandC H a c ∧ TupN H l xs ∧ 0 < xs.length ∧ xs.length ≤ 1000 ∧ ∀ (x : V) (H' : Hp), x ∈ xs → HandC H' a c → Keep a H H' → Q x H'
theorem ok_someT {f : Addr} {fd : FuncData} (F : FnP K "_law_some" sSome f fd) (D : Df P w K mg base "_law_draw" 1 ["hand", "many"] spDraw) (m3 : mg "len" = none) : FnOk P w K mg base CX0 2 f fd ["hand", "things"] (spSomeT K) := by
  refine F.ok scSome (fun vs H Q E h => ?_) (fun cdv A outer s H vs Q E hr h => ?_)
  · obtain ⟨a, c, l, xs, rfl, _⟩ := h
    rfl
  · obtain ⟨a, c, l, xs, rfl, hh, hS, h0, h1, q⟩ := h
    refine ⟨_, PSs.nox (pss_one (ps_ret (pe_ix ix_tup (pv 1) (pe_df D hr (by decide) (pa_cons (pv 0) (pa_cons (pe_callB call_len_seq (by rfl) m3 PySem.boot_len (pa_cons (pv 1) pa_nil)) pa_nil))) (fun _ _ => rfl)))), ?_⟩
    refine ⟨_, rfl, _, rfl, _, rfl, l, _, rfl, .inr hS.sq, a, c, _, rfl, hh, by omega, by omega, fun d H' d0 d1 hh' kp => ?_⟩
    obtain ⟨j, rfl⟩ : ∃ j : Nat, d = (j : Int) := ⟨d.toNat, by omega⟩
    have hj : j < xs.length := by omega
    exact ⟨l, _, _, xs[j], rfl, rfl, (TupN.kt hS (ktK hh.live kp)).sq, atI_nat (List.getElem?_eq_getElem hj), q _ _ (List.getElem_mem hj) hh' kp⟩
theorem scLBound : FnScope ["hand", "facts", "fact", "row"] ["hand", "facts"] (defScope sLBound) := ⟨rfl, rfl, rfl, by decide +kernel, rfl, by decide +kernel, by decide +kernel⟩
theorem scLStr : FnScope ["hand", "facts", "name", "low"] ["hand", "facts"] (defScope sLStr) := ⟨rfl, rfl, rfl, by decide +kernel, rfl, by decide +kernel, by decide +kernel⟩
theorem scLStrs : FnScope ["hand", "facts", "turn"] ["hand", "facts"] (defScope sLStrs) := ⟨rfl, rfl, rfl, by decide +kernel, rfl, by decide +kernel, by decide +kernel⟩
def FactsAt (K : PySem.W.Frag) (H : Hp) (v : V) (ds : List PyData) : Prop := ∃ fa xs, v = .ref fa ∧ TupN H fa xs ∧ DdAll K H xs ds ∧ FactL ds ∧ ds.length ≤ 900
theorem FactsAt.kt {H H' : Hp} {v : V} {ds : List PyData} (h : FactsAt K H v ds) (k : Kt 0 H H') : FactsAt K H' v ds := by
  obtain ⟨fa, xs, e, h1, h2, h3, h4⟩ := h
  exact ⟨fa, xs, e, TupN.kt h1 k, dds_kt k (facts_dp h3).1 h2, h3, h4⟩
def spLBound (K : PySem.W.Frag) : Sp := fun vs H Q _ => ∃ (a c : Addr) (fv : V) (ds : List PyData), vs = [.ref a, fv] ∧ HandC H a c ∧ FactsAt K H fv ds ∧ ∀ (v : V) (o : Option (List PyData)) (H' : Hp), HandC H' a c → Keep a H H' → Dd K H' v (bdD o) → (∀ l, o = some l → RowB l) → Q v H'
theorem ok_lbound {f : Addr} {fd : FuncData} (F : FnP K "_law_bound" sLBound f fd) (M : Nm mg) (DD : DDraw P w K mg base) (DSm : Df P w K mg base "_law_some" 2 ["hand", "things"] (spSomeT K)) (DFa : DY P w K mg base "_law_fact" 4 RF) : FnOk P w K mg base CX0 5 f fd ["hand", "facts"] (spLBound K) := by
  refine F.ok scLBound (fun vs H Q E h => ?_) (fun cdv A outer s H vs Q E hr h => ?_)
  · obtain ⟨a, c, fv, ds, rfl, _⟩ := h
    rfl
  obtain ⟨a, c, fv, ds, rfl, hh, hfs, q⟩ := h
  refine ⟨_, PSs.nox (pss_cons (ps_if (pt_cmpR op_eq (pe_df DD hr (by decide) (pa_cons (pv 0) (pa_cons pe_int pa_nil))) pe_int (nomark _)) (pss_one (ps_ret pe_non)) pss_nil)
      (C8.pss_cut (ps_set (i := 2) scLBound.nd rfl (Or.inl rfl) (pe_ifExp (PW.pt (pw_and (pt_cmpR op_gt (pe_callB call_len_seq (by rfl) M.len PySem.boot_len (pa_cons (pv 1) pa_nil)) pe_int (nomark _)) (pw_and1 (pt_cmpR op_gt (pe_df DD hr (by decide) (pa_cons (pv 0) (pa_cons pe_int pa_nil))) pe_int (nomark _))))) (pe_df DSm hr (by decide) (pa_cons (pv 0) (pa_cons (pv 1) pa_nil))) (pe_df DFa hr (by decide) (pa_cons (pv 0) pa_nil))))
      (pss_cons (ps_set (i := 3) scLBound.nd rfl (Or.inl rfl) (pe_ifExp (pt_cmpR op_eq (pe_ix (r := rIxT K) ix_tup (pv 2) pe_int (fun _ _ => rfl)) pe_str (nomark _)) (pe_slice (r := rSlA K) sl_tupA (pe_ix (r := rIxT K) ix_tup (pv 2) pe_int (fun _ _ => rfl)) po_none (po_some pe_int)) (pe_ix (r := rIxT K) ix_tup (pv 2) pe_int (fun _ _ => rfl))))
      (pss_one (ps_ret (pe_slice (r := rSlA K) sl_tupA (pv 3) po_none (po_some (pe_df DD hr (by decide) (pa_cons (pv 0) (pa_cons (pe_op op_add (pe_callB call_len_seq (by rfl) M.len PySem.boot_len (pa_cons (pv 3) pa_nil)) pe_int) pa_nil)))))))))), ?_⟩
  refine ⟨_, rfl, a, c, 5, rfl, hh, by decide, by decide, fun d H1 d0 d1 hh1 k1 => ⟨rfl, _, rfl, tst (fun _ => ?_) fun _ => ?_⟩⟩
  · exact q .non none H1 hh1 k1 .non (fun l e => nomatch e)
  obtain ⟨fa, xs, rfl, hfa, hfd, hfl, zf⟩ := hfs.kt (ktK hh.live k1)
  have lxs := dall_len hfd
  refine ⟨fun σ H' => HandC H' a c ∧ Keep a H H' ∧ ∃ (x : V) (fd' : PyData), σ = [some (.ref a), some (.ref fa), some x, none] ∧ Dd K H' x fd' ∧ okD fd' = true ∧ factD fd' = true, ?_, fun σ H2 z => ?_⟩
  · have lz : (0 : Int) < (xs.length : Int) → 0 < xs.length := fun h => by omega
    have other : ∀ H2, HandC H2 a c → Keep a H H2 → ∀ (Q' : VK), (∀ (x : V) (e : PyData) (H3 : Hp), HandC H3 a c → Keep a H H3 → Dd K H3 x e → okD e = true → factD e = true → Q' x H3) → (tCall (spY K RF) [] E0 (tCons (tVar 0) tNil)) [some (.ref a), some (.ref fa), none, none] H2 Q' := fun H2 hh2 k2 Q' q' => ⟨_, rfl, a, c, rfl, hh2, fun v e H3 re hh3 k3 hv => q' v e H3 hh3 (k2.trans k3) (Dd.same vis_same hv) re.2 re.1⟩
    refine ⟨_, rfl, fa, xs, rfl, .inr hfa.sq, _, _, rfl, rfl, _, rfl, tst (fun c1 => ?_) fun _ => ?_⟩
    · refine ⟨_, rfl, a, c, 3, rfl, hh1, by decide, by decide, fun d H2 d0 d1 hh2 k2 => ⟨_, _, rfl, rfl, _, rfl, tst (fun _ => ?_) fun _ => ?_⟩⟩
      · have kt2 := ktK hh1.live k2
        have hfa2 := TupN.kt hfa kt2
        have hfd2 := dds_kt kt2 (facts_dp hfl).1 hfd
        refine ⟨_, rfl, _, rfl, a, c, fa, xs, rfl, hh2, hfa2, lz (of_decide_eq_true c1), by omega, fun x H3 hx hh3 k3 => ?_⟩
        obtain ⟨i, hi⟩ := List.getElem?_of_mem hx
        obtain ⟨e, he, hde⟩ := dall_at' hfd2 hi
        have hfe := hfl e (List.mem_of_getElem? he)
        exact ⟨hh3, (k1.trans k2).trans k3, x, e, rfl, dd_kt (ktK hh2.live k3) (fact_key hfe.1 hfe.2).2 hde, hfe.1, hfe.2⟩
      · exact other H2 hh2 (k1.trans k2) _ fun x e H3 hh3 k3 hv o1 o2 => ⟨hh3, k3, x, e, rfl, hv, o1, o2⟩
    · exact other H1 hh1 k1 _ fun x e H3 hh3 k3 hv o1 o2 => ⟨hh3, k3, x, e, rfl, hv, o1, o2⟩
  · obtain ⟨hh2, k2, x, fd', rfl, hx, ho, hf⟩ := z
    obtain ⟨m, ws, rfl, hw⟩ := fact_rf ⟨ho, hf⟩
    have hcut := fact_cut ho hf
    obtain ⟨b, u, rfl, sb, hu⟩ := fa_ix hx
    obtain ⟨ra, rx, rfl, hra, hrd⟩ := ofTup hu
    have fin : ∀ (R : Addr) (ys : List V) (H3 : Hp) (Q' : VK), Same H2 H3 → TupN H3 R ys → DdAll K H3 ys (cutR m ws) → (∀ v n H4, HandC H4 a c → Keep a H H4 → Dd K H4 v (.tuple ((cutR m ws).take n)) → Q' v H4) → (tSl (rSlA K) (tVar 3) tNoPart (tPart (tCall spDraw [] E0 (tCons (tVar 0) (tCons (tOp (rI0 fun i j => V.int (i + j)) (tCB (fun xs H Q => ∃ p ys, xs = [V.ref p] ∧ (SqL K H p ys ∨ SqT K H p ys) ∧ Q (V.int ys.length) H) (tCons (tVar 3) tNil)) (tC (.int 1))) tNil))))) [some (.ref a), some (.ref fa), some (.ref b), some (.ref R)] H3 Q' := fun R ys H3 Q' s3 hR hys q' => by
      have lys := dall_len hys
      have hz := hcut.1
      refine ⟨_, rfl, _, rfl, _, rfl, R, ys, rfl, .inr hR.sq, _, _, rfl, rfl, a, c, _, rfl, hh2.same s3, by omega, by omega, fun d H4 d0 d1 hh4 k4 => ⟨_, rfl, ?_⟩⟩
      obtain ⟨j, rfl⟩ : ∃ j : Nat, d = (j : Int) := ⟨d.toNat, by omega⟩
      have kt4 := ktK (hh2.same s3).live k4
      refine take_any (TupN.kt hR kt4) fun T H5 s5 hT => q' _ j H5 (hh4.same s5) ((k2.trans (keepS s3)).trans (k4.trans (keepS s5))) (.tup hT (dall_take _ (DdAll.same s5 (dds_kt kt4 hcut.key hys))))
    have done : ∀ v n H4, HandC H4 a c → Keep a H H4 → Dd K H4 v (.tuple ((cutR m ws).take n)) → Q v H4 := fun v n H4 hh4 k4 hv => q v (some ((cutR m ws).take n)) H4 hh4 k4 hv fun l e => by
      cases e
      exact hcut.take n
    refine ⟨_, rfl, b, _, 0, .str m, rfl, rfl, sb, rfl, rfl, _, rfl, tst (fun e => ?_) fun e => ?_⟩
    · have e : m = ("rule" : Str) := by
        rw [str_eq] at e
        exact of_decide_eq_true e
      refine ⟨_, rfl, b, _, 1, _, rfl, rfl, sb, rfl, 1, rfl, take_any (n := 1) hra fun T H3 s3 hT => ?_⟩
      have ec : cutR m ws = ws.take 1 := if_pos e
      exact fin T _ H3 _ s3 hT (by rw [ec]; exact dall_take _ (DdAll.same s3 hrd)) done
    · have e : ¬ m = ("rule" : Str) := by
        rw [str_eq] at e
        exact of_decide_eq_false e
      refine ⟨_, rfl, b, _, 1, _, rfl, rfl, sb, rfl, ?_⟩
      have ec : cutR m ws = ws := if_neg e
      exact fin ra _ H2 _ (Same.refl H2) hra (by rw [ec]; exact hrd) done
def spLStr (K : PySem.W.Frag) : Sp := fun vs H Q _ => ∃ (a c : Addr) (fv : V) (ds : List PyData), vs = [.ref a, fv] ∧ HandC H a c ∧ FactsAt K H fv ds ∧ ∀ (v : V) (t : Stt) (H' : Hp), HandC H' a c → Keep a H H' → Dd K H' v t.d → t.Ok → Q v H'
theorem ok_lstr {f : Addr} {fd : FuncData} (F : FnP K "_law_stretch" sLStr f fd) (M : Nm mg) (DD : DDraw P w K mg base) (DSl : DSome P w K mg base) (DSm : Df P w K mg base "_law_some" 2 ["hand", "things"] (spSomeT K)) (DB : Df P w K mg base "_law_bound" 5 ["hand", "facts"] (spLBound K)) : FnOk P w K mg base CX0 6 f fd ["hand", "facts"] (spLStr K) := by
  refine F.ok scLStr (fun vs H Q E h => ?_) (fun cdv A outer s H vs Q E hr h => ?_)
  · obtain ⟨a, c, fv, ds, rfl, _⟩ := h
    rfl
  obtain ⟨a, c, fv, ds, rfl, hh, hfs, q⟩ := h
  refine ⟨_, PSs.nox (pss_cons (ps_set (i := 2) scLStr.nd rfl (Or.inl rfl) (pe_df DSl hr (by decide) (pa_cons (pv 0) (pa_cons (pe_lst (pa_cons pe_str (pa_cons pe_str (pa_cons pe_str (pa_cons pe_str pa_nil))))) pa_nil))))
      (C8.pss_cut (ps_if (PW.pt (pw_and (pt_cmpR op_gt (pe_callB call_len_seq (by rfl) M.len PySem.boot_len (pa_cons (pv 1) pa_nil)) pe_int (nomark _)) (pw_and1 (pt_cmpR op_gt (pe_df DD hr (by decide) (pa_cons (pv 0) (pa_cons pe_int pa_nil))) pe_int (nomark _))))) (pss_one (ps_set (i := 2) scLStr.nd rfl (Or.inl rfl) (pe_ix (r := rIxT K) ix_tup (pe_df DSm hr (by decide) (pa_cons (pv 0) (pa_cons (pv 1) pa_nil))) pe_int (fun _ _ => rfl)))) pss_nil)
      (pss_cons (ps_set (i := 3) scLStr.nd rfl (Or.inl rfl) (pe_df DB hr (by decide) (pa_cons (pv 0) (pa_cons (pv 1) pa_nil))))
      (pss_one (ps_ret (pe_tup (pa_cons (pv 2) (pa_cons (pv 3) (pa_cons (pe_ifExp (pt_cmpR op_eq (pe_df DD hr (by decide) (pa_cons (pv 0) (pa_cons pe_int pa_nil))) pe_int (nomark _)) (pv 3) (pe_df DB hr (by decide) (pa_cons (pv 0) (pa_cons (pv 1) pa_nil)))) pa_nil))))))))), ?_⟩
  refine ⟨_, rfl, by rw [sizeLine_eq]; exact (by decide : 4 ≤ 16777216), fun L nL => ?_⟩
  have La : L ≠ a := hh.live.ne nL
  refine ⟨a, c, L, _, rfl, hh.set La (hh.cne nL), La, SqL.of upd_same, (by decide : 0 < 4), (by decide : 4 ≤ 1000), fun x H1 hx hh1 k1 => ?_⟩
  have k01 : Keep a H H1 := Keep.trans (keepS (same_up nL)) k1
  obtain ⟨nm, rfl, hnm⟩ : ∃ nm : Str, x = .str nm ∧ nameD (.str nm) = true := by
    simp only [List.mem_cons, List.not_mem_nil, or_false] at hx
    rcases hx with rfl | rfl | rfl | rfl <;> exact ⟨_, rfl, by decide⟩
  have hfs1 := hfs.kt (ktK hh.live k01)
  refine ⟨fun σ H' => HandC H' a c ∧ Keep a H H' ∧ ∃ (nm : Str), σ = [some (.ref a), some fv, some (.str nm), none] ∧ nameD (.str nm) = true, ?_, fun σ H2 z => ?_⟩
  · obtain ⟨fa, xs, rfl, hfa, hfd, hfl, zf⟩ := hfs1
    have lxs := dall_len hfd
    refine ⟨_, rfl, fa, xs, rfl, .inr hfa.sq, _, _, rfl, rfl, _, rfl, tst (fun c1 => ?_) fun _ => ⟨hh1, k01, nm, rfl, hnm⟩⟩
    refine ⟨_, rfl, a, c, 4, rfl, hh1, by decide, by decide, fun d H2 d0 d1 hh2 k2 => ⟨_, _, rfl, rfl, _, rfl, tst (fun _ => ?_) fun _ => ⟨hh2, k01.trans k2, nm, rfl, hnm⟩⟩⟩
    have kt2 := ktK hh1.live k2
    have hfa2 := TupN.kt hfa kt2
    have hfd2 := dds_kt kt2 (facts_dp hfl).1 hfd
    have lz : 0 < xs.length := by
      have : (0 : Int) < (xs.length : Int) := of_decide_eq_true c1
      omega
    refine ⟨_, rfl, _, rfl, a, c, fa, xs, rfl, hh2, hfa2, lz, by omega, fun x H3 hx hh3 k3 => ?_⟩
    obtain ⟨i, hi⟩ := List.getElem?_of_mem hx
    obtain ⟨e, he, hde⟩ := dall_at' hfd2 hi
    have hfe := hfl e (List.mem_of_getElem? he)
    have hde3 := dd_kt (ktK hh2.live k3) (fact_key hfe.1 hfe.2).2 hde
    obtain ⟨m, ws, rfl, _⟩ := fact_rf hfe
    have hm : nameD (.str m) = true := (Bool.and_eq_true_iff.mp (show (nameD (.str m) && (if isR (.str m) = true then ruleD (.tuple ws) else rowD (.tuple ws))) = true from hfe.2)).1
    obtain ⟨b, u, rfl, sb, hu⟩ := fa_ix hde3
    exact ⟨b, _, 0, .str m, rfl, rfl, sb, rfl, hh3, (k01.trans k2).trans k3, m, rfl, hm⟩
  · obtain ⟨hh2, k2, nm, rfl, hnm⟩ := z
    refine ⟨_, rfl, _, rfl, a, c, fv, ds, rfl, hh2, hfs.kt (ktK hh.live k2), fun lo olo H3 hh3 k3 hlo olo1 => ?_⟩
    have k03 := k2.trans k3
    have fin : ∀ (hi : V) (ohi : Option (List PyData)) (H4 : Hp), HandC H4 a c → Keep a H3 H4 → Dd K H4 hi (bdD ohi) → (∀ l, ohi = some l → RowB l) → [V.str nm, lo, hi].length ≤ sizeLine ∧ ∀ T, H4 T = none → Q (.ref T) (upd H4 T (.tup [V.str nm, lo, hi])) := fun hi ohi H4 hh4 k4 hhi ohi1 => by
      refine ⟨by rw [sizeLine_eq]; exact (by decide : 3 ≤ 16777216), fun T nT => ?_⟩
      have s5 := same_up (o := .tup [V.str nm, lo, hi]) nT
      exact q (.ref T) ⟨nm, olo, ohi⟩ _ (hh4.same s5) ((k03.trans k4).trans (keepS s5)) (.tup (.inl upd_same) (.cons (.str _) (.cons ((bd_kt hlo olo1 (ktK hh3.live k4)).same s5) (.cons (hhi.same s5) .nil)))) ⟨hnm, olo1, ohi1⟩
    refine ⟨_, rfl, _, rfl, _, rfl, a, c, 2, rfl, hh3, by decide, by decide, fun d H4 d0 d1 hh4 k4 => ⟨rfl, _, rfl, tst (fun _ => ?_) fun _ => ?_⟩⟩
    · exact ⟨_, rfl, fin lo olo H4 hh4 k4 (bd_kt hlo olo1 (ktK hh3.live k4)) olo1⟩
    · exact ⟨_, rfl, _, rfl, a, c, fv, ds, rfl, hh4, hfs.kt (ktK hh.live (k03.trans k4)), fun hi ohi H5 hh5 k5 hhi ohi1 => fin hi ohi H5 hh5 (k4.trans k5) hhi ohi1⟩
def spLStrs (K : PySem.W.Frag) : Sp := fun vs H Q _ => ∃ (a c : Addr) (fv : V) (ds : List PyData), vs = [.ref a, fv] ∧ HandC H a c ∧ FactsAt K H fv ds ∧ ∀ (v : V) (ts : List Stt) (H' : Hp), HandC H' a c → Keep a H H' → Dd K H' v (.tuple (ts.map Stt.d)) → ts.length ≤ 4 → (∀ t ∈ ts, t.Ok) → Q v H'
theorem ok_lstrs {f : Addr} {fd : FuncData} (F : FnP K "_law_stretches" sLStrs f fd) (M : Nm mg) (DD : DDraw P w K mg base) (DS : Df P w K mg base "_law_stretch" 6 ["hand", "facts"] (spLStr K)) : FnOk P w K mg base CX0 7 f fd ["hand", "facts"] (spLStrs K) := by
  refine F.ok scLStrs (fun vs H Q E h => ?_) (fun cdv A outer s H vs Q E hr h => ?_)
  · obtain ⟨a, c, fv, ds, rfl, _⟩ := h
    rfl
  obtain ⟨a, c, fv, ds, rfl, hh, hfs, q⟩ := h
  refine ⟨_, PSs.nox (pss_one (ps_ret (pe_callTy (r := rTupOf K) call_tuple_of (by rfl) M.tuple (by decide +kernel) (pa_cons (pe_lc (own := [("turn", 2)]) (g := gName 2) (tt := tYes) (by rfl) scLStrs.nd (pi_range1 rfl M.range (pa_cons (pe_df DD hr (by decide) (pa_cons (pv 0) (pa_cons pe_int pa_nil))) pa_nil)) (blkOk_by (N := ["hand", "facts", "turn"]) (sc := defScope sLStrs) (by decide +kernel)) (fun _ _ _ _ _ => pg_name (i := 2) scLStrs.nd rfl (Or.inl rfl)) (fun _ _ _ _ _ => pts_nil) (fun _ _ _ _ _ => (pe_df DS hr (by decide) (pa_cons (pv 0) (pa_cons (pv 1) pa_nil))))) pa_nil)))), ?_⟩
  refine ⟨_, rfl, a, c, 4, rfl, hh, by decide, by decide, fun d H1 d0 d1 hh1 k1 => ?_⟩
  refine ⟨d, rfl, by omega, by omega, fun D hD => ?_⟩
  refine lc_range (lo := 0) (n := d.toNat) (fun i H' => HandC H' a c ∧ Keep a H1 H' ∧ ∃ (ys : List V) (ts : List Stt), H' D = some (.lst ys) ∧ DdAll K H' ys (ts.map Stt.d) ∧ ts.length = i ∧ ∀ t ∈ ts, t.Ok) ⟨hh1.set (hh1.live.ne hD) (hh1.cne hD), Keep.refl.new hD, [], [], upd_same, .nil, rfl, fun e he => (nomatch he)⟩ (fun i H' hi e => ?_) (fun H2 e => ?_)
  · obtain ⟨hh2, k2, ys, ts, hy, hd, hl, ht⟩ := e
    have Da : D ≠ a := hh1.live.ne hD
    refine ⟨rfl, _, rfl, _, rfl, a, c, fv, ds, rfl, hh2, hfs.kt (ktK hh.live (k1.trans k2)), fun v t H3 hh3 k3 hv hto => ?_⟩
    have hy3 := k3 _ _ Da hy
    have kt := ktK hh2.live k3
    have kD : Kt 0 H3 (upd H3 D (.lst (ys ++ [v]))) := kt_upd hy3 (fun e => e)
    refine ⟨ys, hy3, ?_, hh3.set Da (hh1.cne hD), Keep.new (k2.trans k3) hD, ys ++ [v], ts ++ [t], upd_same, ?_, by rw [List.length_append, hl]; rfl, fun z hz => ?_⟩
    · have := ddAll_len hd
      rw [List.length_map] at this
      rw [sizeLine_eq]
      omega
    · rw [List.map_append]
      exact dall_app (sts_kt kD ht (sts_kt kt ht hd)) (.cons (st_kt hv hto kD) .nil)
    · rcases List.mem_append.mp hz with hz | hz
      · exact ht z hz
      · rw [List.mem_singleton.mp hz]
        exact hto
  · obtain ⟨hh2, k2, ys, ts, hy, hd, hl, ht⟩ := e
    refine ⟨D, ys, rfl, .inl ⟨SqL.of hy, fun T nT => ?_⟩⟩
    have s3 := same_up (o := .tup ys) nT
    exact q (.ref T) ts _ (hh2.same s3) (k1.trans (k2.trans (keepS s3))) (.tup (.inl upd_same) (DdAll.same s3 hd)) (by omega) ht
end
end Sm
/-! The order of rows and of stretches. -/
namespace Sm
open PySem PySem.Spec PyProof.Rows L2 Vd RZ
theorem wk_ii (i j : Int) : ltD (wkD (.int i)) (wkD (.int j)) = decide (i < j) := by
  simp only [wkD, isS, ltD, ltDs, eqD]
  by_cases h : i = j
  · subst h
    simp
  · have : (i == j) = false := beq_eq_false_iff_ne.mpr h
    simp [this]
theorem wk_ss (u v : Str) : ltD (wkD (.str u)) (wkD (.str v)) = ltS u v := by
  simp only [wkD, isS, ltD, ltDs, eqD]
  by_cases h : u = v
  · subst h
    simp [ltS_self]
  · have : (u == v) = false := beq_eq_false_iff_ne.mpr h
    simp [this, ltS]
theorem wk_is (i : Int) (v : Str) : ltD (wkD (.int i)) (wkD (.str v)) = true := by
  simp [wkD, isS, ltD, ltDs, eqD]
theorem wk_si (i : Int) (v : Str) : ltD (wkD (.str v)) (wkD (.int i)) = false := by
  simp [wkD, isS, ltD, ltDs, eqD]
theorem ltS_trans {x y z : Str} (h1 : ltS x y = true) (h2 : ltS y z = true) : ltS x z = true := decide_eq_true (List.lt_trans (of_decide_eq_true h1) (of_decide_eq_true h2))
theorem wk_trans {x y z : PyData} (hx : WorthK x) (hy : WorthK y) (hz : WorthK z) (h1 : ltD (wkD x) (wkD y) = true) (h2 : ltD (wkD y) (wkD z) = true) : ltD (wkD x) (wkD z) = true := by
  rcases hx with ⟨i, rfl⟩ | ⟨u, rfl⟩ <;> rcases hy with ⟨j, rfl⟩ | ⟨v, rfl⟩ <;> rcases hz with ⟨k, rfl⟩ | ⟨t, rfl⟩
  · rw [wk_ii] at *
    have := of_decide_eq_true h1
    have := of_decide_eq_true h2
    exact decide_eq_true (by omega)
  · exact wk_is _ _
  · rw [wk_si] at h2
    cases h2
  · exact wk_is _ _
  · rw [wk_si] at h1
    cases h1
  · rw [wk_si] at h1
    cases h1
  · rw [wk_si] at h2
    cases h2
  · rw [wk_ss] at *
    exact ltS_trans h1 h2
theorem lt_three (x y : Str) : ltS x y = true ∨ x = y ∨ ltS y x = true := by
  by_cases h1 : x.cps.toList < y.cps.toList
  · exact .inl (decide_eq_true h1)
  · by_cases h2 : y.cps.toList < x.cps.toList
    · exact .inr (.inr (decide_eq_true h2))
    · refine .inr (.inl ?_)
      have e : x.cps.toList = y.cps.toList := List.le_antisymm (List.not_lt.mp h2) (List.not_lt.mp h1)
      obtain ⟨a⟩ := x
      obtain ⟨b⟩ := y
      congr 1
      exact Array.toList_inj.mp e
def LK (l : List PyData) : Prop := ∀ x ∈ l, WorthK x
def rlt (a b : List PyData) : Bool := ltDs (a.map wkD) (b.map wkD)
theorem rlt_cons {x y : PyData} {a b : List PyData} : rlt (x :: a) (y :: b) = if eqD (wkD x) (wkD y) = true then rlt a b else ltD (wkD x) (wkD y) := by
  unfold rlt
  rw [List.map_cons, List.map_cons, ltDs_cons]
theorem wk_inj {x y : PyData} (h : wkD x = wkD y) : x = y := by
  unfold wkD at h
  injection h with h
  injection h with _ h
  injection h
theorem wk_eq {x y : PyData} (h : eqD (wkD x) (wkD y) = true) : x = y := wk_inj (eqD_of h)
theorem rlt_trans : ∀ {a b c : List PyData}, LK a → LK b → LK c → rlt a b = true → rlt b c = true → rlt a c = true
  | [], [], [], _, _, _, h1, h2 => h1
  | [], _ :: _, [], _, _, _, h1, h2 => by cases h2
  | [], _, z :: c, _, _, _, _, _ => rfl
  | x :: a, [], _, _, _, _, h1, _ => by cases h1
  | x :: a, y :: b, [], _, _, _, _, h2 => by cases h2
  | x :: a, y :: b, z :: c, ha, hb, hc, h1, h2 => by
    have kx := ha x List.mem_cons_self
    have ky := hb y List.mem_cons_self
    have kz := hc z List.mem_cons_self
    rw [rlt_cons] at h1 h2 ⊢
    have irr : ∀ {u v : PyData}, WorthK u → WorthK v → ltD (wkD u) (wkD v) = true → eqD (wkD u) (wkD v) = false := fun {u v} hu hv h => by
      cases e : eqD (wkD u) (wkD v) with
      | false => rfl
      | true =>
        have := wk_eq e
        subst this
        rcases hu with ⟨i, rfl⟩ | ⟨s, rfl⟩
        · rw [wk_ii] at h
          simp at h
        · rw [wk_ss, ltS_self] at h
          cases h
    cases e1 : eqD (wkD x) (wkD y) with
    | true =>
      have := wk_eq e1
      subst this
      rw [e1, if_pos rfl] at h1
      cases e2 : eqD (wkD x) (wkD z) with
      | true =>
        rw [e2, if_pos rfl] at h2
        rw [if_pos rfl]
        exact rlt_trans (fun u hu => ha u (List.mem_cons_of_mem _ hu)) (fun u hu => hb u (List.mem_cons_of_mem _ hu)) (fun u hu => hc u (List.mem_cons_of_mem _ hu)) h1 h2
      | false =>
        rw [e2, if_neg Bool.false_ne_true] at h2
        rw [if_neg Bool.false_ne_true]
        exact h2
    | false =>
      rw [e1, if_neg Bool.false_ne_true] at h1
      have l13 : ltD (wkD x) (wkD z) = true := by
        cases e2 : eqD (wkD y) (wkD z) with
        | true =>
          have := wk_eq e2
          subst this
          exact h1
        | false =>
          rw [e2, if_neg Bool.false_ne_true] at h2
          exact wk_trans kx ky kz h1 h2
      rw [irr kx kz l13, if_neg Bool.false_ne_true]
      exact l13
theorem rlt_take : ∀ {a b : List PyData} (k : Nat), rlt a b = true → rlt (a.take k) (b.take k) = true ∨ a.take k = b.take k
  | _, _, 0, _ => .inr rfl
  | [], [], k + 1, h => by cases h
  | [], y :: b, k + 1, _ => .inl rfl
  | x :: a, [], k + 1, h => by cases h
  | x :: a, y :: b, k + 1, h => by
    rw [rlt_cons] at h
    rw [List.take_succ_cons, List.take_succ_cons, rlt_cons]
    cases e : eqD (wkD x) (wkD y) with
    | true =>
      have := wk_eq e
      subst this
      rw [e, if_pos rfl] at h
      rcases rlt_take k h with h | h
      · exact .inl (by rw [if_pos rfl]; exact h)
      · exact .inr (by rw [h])
    | false =>
      rw [e, if_neg Bool.false_ne_true] at h
      exact .inl (by rw [if_neg Bool.false_ne_true]; exact h)
theorem rk_rlt (a b : List PyData) : ltD (rkD (.tuple a)) (rkD (.tuple b)) = rlt a b := by
  unfold rkD partsD rlt
  rw [ltD_tup]
theorem loB_some (l ws : List PyData) : loB (some l) ws = rlt (ws.take l.length) l := rk_rlt _ _
theorem hiB_some (l ws : List PyData) : hiB (some l) ws = rlt l (ws.take l.length) := rk_rlt _ _
theorem LK.take {l : List PyData} (h : LK l) (k : Nat) : LK (l.take k) := fun x hx => h x (List.mem_of_mem_take hx)
theorem lo_mono {t : Stt} (ht : t.Ok) {a b : List PyData} (ha : LK a) (hb : LK b) (h : rlt a b = true) (l : loB t.lo b = true) : loB t.lo a = true := by
  have ho := ht.lo
  cases e : t.lo with
  | none =>
    rw [e] at l
    cases l
  | some lo =>
    rw [e] at l ho
    have hk := (ho lo rfl).f.2
    rw [loB_some] at l ⊢
    rcases rlt_take lo.length h with q | q
    · exact rlt_trans (ha.take _) (hb.take _) hk q l
    · rw [q]
      exact l
theorem hi_mono {t : Stt} (ht : t.Ok) {a b : List PyData} (ha : LK a) (hb : LK b) (h : rlt a b = true) (l : hiB t.hi a = true) : hiB t.hi b = true := by
  have ho := ht.hi
  cases e : t.hi with
  | none =>
    rw [e] at l
    cases l
  | some hi =>
    rw [e] at l ho
    have hk := (ho hi rfl).f.2
    rw [hiB_some] at l ⊢
    rcases rlt_take hi.length h with q | q
    · exact rlt_trans hk (ha.take _) (hb.take _) l q
    · rw [← q]
      exact l
theorem rlt_irr : ∀ {a : List PyData}, LK a → rlt a a = false
  | [], _ => rfl
  | x :: a, h => by
    have kx := h x List.mem_cons_self
    rw [rlt_cons, eqD_refl (wk_key kx.key.1), if_pos rfl]
    exact rlt_irr fun u hu => h u (List.mem_cons_of_mem _ hu)
/-- one fact ahead of another -/
theorem fk_lt {m n : Str} {a b : List PyData} (hb : LK b) : ltD (fkD (.tuple [.str m, .tuple a])) (fkD (.tuple [.str n, .tuple b])) = if m = n then rlt a b else ltS m n := by
  show ltD (.tuple [.str m, rkD (.tuple a)]) (.tuple [.str n, rkD (.tuple b)]) = _
  rw [ltD_tup, ltDs_cons]
  by_cases h : m = n
  · subst h
    rw [if_pos (eqD_refl (by unfold keyT; rfl)), if_pos rfl, ltDs_cons, rk_rlt, ltDs_nil]
    cases e : eqD (rkD (.tuple a)) (rkD (.tuple b)) with
    | true =>
      rw [if_pos rfl]
      have := eqD_of e
      cases h : rlt a b with
      | false => rfl
      | true =>
        exfalso
        rw [← rk_rlt, this, rk_rlt, rlt_irr hb] at h
        cases h
    | false => rw [if_neg Bool.false_ne_true]
  · have e : eqD (.str m) (.str n) = false := by
      cases q : eqD (.str m) (.str n) with
      | false => rfl
      | true =>
        have := eqD_of q
        injection this with this
        exact absurd this h
    rw [e, if_neg Bool.false_ne_true, if_neg h]
    unfold ltD
    rfl
theorem side_lt {t : Stt} (ht : t.Ok) {d e : PyData} (hd : okD d = true ∧ factD d = true) (he : okD e = true ∧ factD e = true) (h : ltD (fkD d) (fkD e) = true) (l : sideF t e < 0) : sideF t d < 0 := by
  obtain ⟨m, a, rfl, ka⟩ := fact_rf hd
  obtain ⟨n, b, rfl, kb⟩ := fact_rf he
  rw [fk_lt kb.2] at h
  have l : side t n b < 0 := l
  show side t m a < 0
  by_cases e1 : n = t.n
  · have lb := (side_lo (s := t) (ws := b) e1).symm.trans (decide_eq_true l)
    by_cases e2 : m = n
    · rw [if_pos e2] at h
      have := lo_mono ht ka.2 kb.2 h lb
      exact of_decide_eq_true ((side_lo (s := t) (ws := a) (e2.trans e1)).trans this)
    · rw [if_neg e2] at h
      rw [side_ne (fun z => e2 (z.trans e1.symm)), if_pos (by rw [← e1]; exact h)]
      decide
  · rw [side_ne e1] at l
    have ln : ltS n t.n = true := by
      cases q : ltS n t.n with
      | true => rfl
      | false =>
        rw [q, if_neg Bool.false_ne_true] at l
        exact absurd l (by decide)
    have lm : ltS m t.n = true := by
      by_cases e2 : m = n
      · rw [e2]
        exact ln
      · rw [if_neg e2] at h
        exact ltS_trans h ln
    have ne : ¬ m = t.n := fun z => by
      rw [z, ltS_self] at lm
      cases lm
    rw [side_ne ne, if_pos lm]
    decide
theorem side_gt {t : Stt} (ht : t.Ok) {d e : PyData} (hd : okD d = true ∧ factD d = true) (he : okD e = true ∧ factD e = true) (h : ltD (fkD d) (fkD e) = true) (l : 0 < sideF t d) : 0 < sideF t e := by
  obtain ⟨m, a, rfl, ka⟩ := fact_rf hd
  obtain ⟨n, b, rfl, kb⟩ := fact_rf he
  rw [fk_lt kb.2] at h
  have l : 0 < side t m a := l
  show 0 < side t n b
  by_cases e1 : m = t.n
  · have lb : loB t.lo a = false ∧ hiB t.hi a = true := by
      unfold side at l
      rw [if_pos e1] at l
      cases q1 : loB t.lo a with
      | true =>
        rw [q1, if_pos rfl] at l
        exact absurd l (by decide)
      | false =>
        refine ⟨rfl, ?_⟩
        rw [q1, if_neg Bool.false_ne_true] at l
        cases q2 : hiB t.hi a with
        | true => rfl
        | false =>
          rw [q2, if_neg Bool.false_ne_true] at l
          exact absurd l (by decide)
    by_cases e2 : m = n
    · rw [if_pos e2] at h
      have h2 := hi_mono ht ka.2 kb.2 h lb.2
      have h1 : loB t.lo b = false := by
        cases q : loB t.lo b with
        | false => rfl
        | true =>
          have := lo_mono ht ka.2 kb.2 h q
          rw [lb.1] at this
          cases this
      unfold side
      rw [if_pos (e2.symm.trans e1), h1, if_neg Bool.false_ne_true, h2, if_pos rfl]
      decide
    · rw [if_neg e2] at h
      have ne : ¬ n = t.n := fun z => e2 (e1.trans z.symm)
      have : ltS n t.n = false := by
        cases q : ltS n t.n with
        | false => rfl
        | true =>
          rw [e1] at h
          have := ltS_trans h q
          rw [ltS_self] at this
          cases this
      rw [side_ne ne, this, if_neg Bool.false_ne_true]
      decide
  · rw [side_ne e1] at l
    have lm : ltS m t.n = false := by
      cases q : ltS m t.n with
      | false => rfl
      | true =>
        rw [q, if_pos rfl] at l
        exact absurd l (by decide)
    have gm : ltS t.n m = true := by
      rcases lt_three t.n m with q | q | q
      · exact q
      · exact absurd q.symm e1
      · rw [q] at lm
        cases lm
    have gn : ltS t.n n = true := by
      by_cases e2 : m = n
      · rw [← e2]
        exact gm
      · rw [if_neg e2] at h
        exact ltS_trans gm h
    have ne : ¬ n = t.n := fun z => by
      rw [z, ltS_self] at gn
      cases gn
    have : ltS n t.n = false := by
      cases q : ltS n t.n with
      | false => rfl
      | true =>
        have := ltS_trans gn q
        rw [ltS_self] at this
        cases this
    rw [side_ne ne, this, if_neg Bool.false_ne_true]
    decide
end Sm
/-! What the showing of a tree for stretches is, as mathematics. -/
namespace Sm
open PySem PySem.Spec PyProof.Rows L2 Vd RZ
theorem tree_cases2 (p : Int) (ds : List PyData) : ((∀ d ∈ ds, rkP p d = 0) ∧ tree p ds = .mk [] ds) ∨ ∃ m : Nat, m + 1 ≤ 6 ∧ (∃ d ∈ ds, rkP p d = m + 1) ∧ (∀ d ∈ ds, rkP p d ≤ m + 1) ∧ tree p ds = .mk ((pieces (fun d => rkP p d == m + 1) ds).map (tree p)) (owns (fun d => rkP p d == m + 1) ds) := by
  obtain ⟨t, h1, h2⟩ := top_rank p ds
  rcases Nat.eq_zero_or_pos t with h0 | h0
  · have z : ∀ d ∈ ds, rkP p d = 0 := fun d hd => by have := h1 d hd; omega
    exact .inl ⟨z, tree_leaf z⟩
  · obtain ⟨m, rfl⟩ : ∃ m, t = m + 1 := ⟨t - 1, by omega⟩
    obtain ⟨d, hd, e⟩ : ∃ d ∈ ds, rkP p d = m + 1 := by
      rcases h2 with h2 | h2
      · omega
      · exact h2
    have m6 : m + 1 ≤ 6 := by
      rw [← e]
      exact rkI_le _
    exact .inr ⟨m, m6, ⟨d, hd, e⟩, h1, tree_node h1 ⟨d, hd, e⟩ m6⟩
def Lt (a b : PyData) : Prop := ltD (fkD a) (fkD b) = true
theorem trFs_weave {f : List PyData → Tr} : ∀ (ls : List (List PyData)) (own : List PyData), ls.length = own.length + 1 → (∀ l ∈ ls, trFacts (f l) = l) → trFs (ls.map f) own = weave ls own
  | [], own, h, _ => by simp at h
  | [l], own, h, k => by
    have : own = [] := List.length_eq_zero_iff.mp (by simpa using h.symm)
    subst this
    simp [trFs, weave, k l]
  | l :: m :: ls, [], h, k => by simp at h
  | l :: m :: ls, o :: os, h, k => by
    have ih := trFs_weave (f := f) (m :: ls) os (by simpa using h) fun x hx => k x (List.mem_cons_of_mem _ hx)
    rw [List.map_cons]
    unfold trFs weave
    rw [k l List.mem_cons_self]
    show l ++ ([o] ++ trFs ((m :: ls).map f) os) = _
    rw [ih]
    rfl
theorem tree_facts (p : Int) : ∀ (k : Nat) (ds : List PyData), (∀ e ∈ ds, rkP p e ≤ k) → trFacts (tree p ds) = ds := by
  intro k
  induction k with
  | zero =>
    intro ds h
    rw [tree_leaf fun d hd => by have := h d hd; omega]
    unfold trFacts
    rfl
  | succ k ih =>
    intro ds h
    rcases tree_cases2 p ds with ⟨_, e⟩ | ⟨m, m6, ⟨dm, hdm, edm⟩, hle, e⟩
    · rw [e]
      unfold trFacts
      rfl
    · have hpl : (pieces (fun d => rkP p d == m + 1) ds).length = (owns (fun d => rkP p d == m + 1) ds).length + 1 := by rw [pieces_len, places_len]
      have hm := h dm hdm
      rw [e]
      have ne : ((pieces (fun d => rkP p d == m + 1) ds).map (tree p)).isEmpty = false := by
        cases hp : pieces (fun d => rkP p d == m + 1) ds with
        | nil => rw [hp] at hpl; cases hpl
        | cons _ _ => rfl
      conv => lhs; unfold trFacts
      rw [ne, if_neg Bool.false_ne_true, trFs_weave _ _ hpl fun l hl => ih l fun d hd => ?_, pieces_weave]
      obtain ⟨h1, h2⟩ := pieces_in hl d hd
      have h3 := hle d h1
      have := beq_eq_false_iff_ne.mp h2
      omega
inductive All2 (R : Tr → Tr → Prop) : List Tr → List Tr → Prop
  | nil : All2 R [] []
  | cons {a b : Tr} {as bs : List Tr} : R a b → All2 R as bs → All2 R (a :: as) (b :: bs)
theorem all2_of {R : Tr → Tr → Prop} : ∀ {as bs : List Tr}, as.length = bs.length → (∀ (i : Nat) (a b : Tr), as[i]? = some a → bs[i]? = some b → R a b) → All2 R as bs
  | [], [], _, _ => .nil
  | [], _ :: _, h, _ => by simp at h
  | _ :: _, [], h, _ => by simp at h
  | a :: as, b :: bs, h, k => .cons (k 0 a b rfl rfl) (all2_of (by simpa using h) fun i x y hx hy => k (i + 1) x y (by simpa using hx) (by simpa using hy))
theorem inAny_app (ts : List Stt) (a b : List PyData) : inAny ts (a ++ b) = inAny ts a ++ inAny ts b := List.filter_append ..
theorem trFs_sub : ∀ {as bs : List Tr} {own : List PyData}, All2 (fun a b => (trFacts a).Sublist (trFacts b)) as bs → (trFs as own).Sublist (trFs bs own)
  | _, _, own, .nil => by
    unfold trFs
    exact List.Sublist.refl _
  | _, _, own, .cons h r => by
    unfold trFs
    exact h.append ((List.Sublist.refl _).append (trFs_sub r))
theorem trFs_in {ts : List Stt} : ∀ {as bs : List Tr} {own : List PyData}, All2 (fun a b => inAny ts (trFacts a) = inAny ts (trFacts b)) as bs → inAny ts (trFs as own) = inAny ts (trFs bs own)
  | _, _, own, .nil => by
    unfold trFs
    rfl
  | _, _, own, .cons h r => by
    unfold trFs
    rw [inAny_app, inAny_app, inAny_app, inAny_app, h, trFs_in r]
/-- of a shut place no fact is in the stretches -/
theorem shut_none {ts : List Stt} {x y : Option PyData} {l : List PyData} (hts : ∀ t ∈ ts, t.Ok) (hs : shutAll ts x y = true) (hx : OF x) (hy : OF y) (hl : FactL l) (hp : (x.toList ++ l ++ y.toList).Pairwise Lt) : inAny ts l = [] := by
  unfold inAny
  rw [List.filter_eq_nil_iff]
  intro e he c
  obtain ⟨t, ht, c⟩ := List.any_eq_true.mp c
  have c := of_decide_eq_true c
  have st := List.all_eq_true.mp hs t ht
  obtain ⟨p1, p2, p3⟩ := List.pairwise_append.mp hp
  obtain ⟨p4, p5, p6⟩ := List.pairwise_append.mp p1
  rcases Bool.or_eq_true_iff.mp st with h | h
  · cases y with
    | none => cases h
    | some b =>
      have h : sideF t b < 0 := of_decide_eq_true h
      have := side_lt (hts t ht) (hl e he) (hy b rfl) (p3 e (List.mem_append_right _ he) b (by simp)) h
      omega
  · cases x with
    | none => cases h
    | some a =>
      have h : 0 < sideF t a := of_decide_eq_true h
      have := side_gt (hts t ht) (hx a rfl) (hl e he) (p6 a (by simp) e he) h
      omega
structure Shown (ts : List Stt) (p : Int) (k : Nat) (ds : List PyData) (s : Tr) (oa ob : Option PyData) : Prop where
  ok : ShOk p k s
  nc : isCutT s = false
  sub : (trFacts s).Sublist ds
  en : enough ts s oa ob = true
  ins : inAny ts (trFacts s) = inAny ts ds
theorem shown_ok {ts : List Stt} {p : Int} (p1 : 1 < p) (hts : ∀ t ∈ ts, t.Ok) : ∀ (k : Nat) (ds : List PyData) (oa ob : Option PyData), (∀ e ∈ ds, rkP p e ≤ k) → FactL ds → OF oa → OF ob → (oa.toList ++ ds ++ ob.toList).Pairwise Lt → Shown ts p k ds (sct ts p (tree p ds) oa ob) oa ob := by
  intro k
  induction k using Nat.strongRecOn with
  | ind k ih =>
    intro ds oa ob hr hf ka kb hp
    rcases tree_cases2 p ds with ⟨z, e⟩ | ⟨m, m6, ⟨dm, hdm, edm⟩, hle, e⟩
    · rw [e]
      unfold sct scts
      exact ⟨.leaf hf z, rfl, by unfold trFacts; exact List.Sublist.refl _, by unfold enough enoughL; rfl, by unfold trFacts; rfl⟩
    · have hm := hr dm hdm
      generalize hq : (fun d => rkP p d == m + 1) = Q1 at e
      have hpl : (pieces Q1 ds).length = (owns Q1 ds).length + 1 := by rw [pieces_len, places_len]
      have hpi : ∀ l ∈ pieces Q1 ds, (∀ d ∈ l, rkP p d ≤ m) ∧ FactL l := fun l hl => by
        refine ⟨fun d hd => ?_, fun d hd => hf d (pieces_in hl d hd).1⟩
        obtain ⟨h1, h2⟩ := pieces_in hl d hd
        have h3 := hle d h1
        rw [← hq] at h2
        have := beq_eq_false_iff_ne.mp h2
        omega
      have hown : ∀ d ∈ owns Q1 ds, d ∈ ds ∧ rkP p d = m + 1 := fun d hd => by
        obtain ⟨h1, h2⟩ := owns_in d hd
        rw [← hq] at h2
        exact ⟨h1, eq_of_beq h2⟩
      have one : owns Q1 ds ≠ [] := fun c => by
        rw [owns_filter, List.filter_eq_nil_iff] at c
        refine c dm hdm ?_
        rw [← hq]
        show (rkP p dm == m + 1) = true
        rw [edm]
        exact beq_self_eq_true _
      have ofo : ∀ z ∈ oa :: ((owns Q1 ds).map some ++ [ob]), OF z := fun z hz => by
        simp only [List.mem_cons, List.mem_append, List.mem_map, List.not_mem_nil, or_false] at hz
        rcases hz with rfl | ⟨e, he, rfl⟩ | rfl
        · exact ka
        · intro d hd
          cases hd
          exact hf e (hown e he).1
        · exact kb
      rw [e]
      unfold sct
      have hlen : ((pieces Q1 ds).map (tree p)).length = (owns Q1 ds).length + 1 := by rw [List.length_map, hpl]
      have Wl := scts_len ts p ((pieces Q1 ds).map (tree p)) oa (owns Q1 ds) ob
      have Wa := scts_at ts p ((pieces Q1 ds).map (tree p)) oa (owns Q1 ds) ob
      have El := enoughL_len ts (scts ts p ((pieces Q1 ds).map (tree p)) oa (owns Q1 ds) ob) oa (owns Q1 ds) ob
      have Ea := enoughL_at ts (scts ts p ((pieces Q1 ds).map (tree p)) oa (owns Q1 ds) ob) oa (owns Q1 ds) ob
      generalize scts ts p ((pieces Q1 ds).map (tree p)) oa (owns Q1 ds) ob = W at Wl Wa El Ea
      -- each child
      have kid : ∀ (i : Nat) (u : Tr), W[i]? = some u → ∃ l x y, (pieces Q1 ds)[i]? = some l ∧ (oa :: ((owns Q1 ds).map some ++ [ob]))[i]? = some x ∧ ((owns Q1 ds).map some ++ [ob])[i]? = some y ∧ ShOk p m u ∧ (trFacts u).Sublist l ∧ enough ts u x y = true ∧ inAny ts (trFacts u) = inAny ts l := fun i u hu => by
        have il := (List.getElem?_eq_some_iff.mp hu).1
        rw [Wl, hlen] at il
        obtain ⟨l, hl⟩ : ∃ l, (pieces Q1 ds)[i]? = some l := ⟨_, List.getElem?_eq_getElem (by omega)⟩
        obtain ⟨x, hx⟩ : ∃ x, (oa :: ((owns Q1 ds).map some ++ [ob]))[i]? = some x := ⟨_, List.getElem?_eq_getElem (by simp; omega)⟩
        obtain ⟨y, hy⟩ : ∃ y, ((owns Q1 ds).map some ++ [ob])[i]? = some y := ⟨_, List.getElem?_eq_getElem (by simp; omega)⟩
        have hlm := List.mem_of_getElem? hl
        have hWi := Wa i (tree p l) x y hlen (by rw [List.getElem?_map, hl]; rfl) hx hy
        rw [hu] at hWi
        have fx : OF x := ofo x (List.mem_of_getElem? hx)
        have fy : OF y := ofo y (List.mem_cons_of_mem _ (List.mem_of_getElem? hy))
        have sub := weave_sub (pieces Q1 ds) (owns Q1 ds) oa ob i l x y hpl hl hx hy
        rw [pieces_weave] at sub
        have pw : (x.toList ++ l ++ y.toList).Pairwise Lt := hp.sublist sub
        refine ⟨l, x, y, hl, hx, hy, ?_⟩
        cases hs : shutAll ts x y with
        | true =>
          rw [hs, if_pos rfl] at hWi
          cases hWi
          have r := trNum_rng p1 l
          refine ⟨.cut r.1 r.2, ?_, ?_, ?_⟩
          · unfold trFacts
            exact List.nil_sublist _
          · unfold enough
            exact hs
          · unfold trFacts
            rw [shut_none hts hs fx fy (hpi l hlm).2 pw]
            rfl
        | false =>
          rw [hs, if_neg Bool.false_ne_true] at hWi
          cases hWi
          have g := ih m (by omega) l x y (hpi l hlm).1 (hpi l hlm).2 fx fy pw
          exact ⟨g.ok, g.sub, g.en, g.ins⟩
      have base : trFs ((pieces Q1 ds).map (tree p)) (owns Q1 ds) = ds := by
        rw [trFs_weave _ _ hpl fun l hl => tree_facts p m l (hpi l hl).1, pieces_weave]
      have pick : ∀ (R : Tr → Tr → Prop), (∀ u l, ShOk p m u → (trFacts u).Sublist l → inAny ts (trFacts u) = inAny ts l → trFacts (tree p l) = l → R u (tree p l)) → All2 R W ((pieces Q1 ds).map (tree p)) := fun R hR => all2_of Wl fun i a b ha hb => by
        obtain ⟨l, x, y, hl, hx, hy, k1, k2, k3, k4⟩ := kid i a ha
        rw [List.getElem?_map, hl] at hb
        cases hb
        exact hR a l k1 k2 k4 (tree_facts p m l (hpi l (List.mem_of_getElem? hl)).1)
      have bsT : ∀ z ∈ enoughL ts W oa (owns Q1 ds) ob, z = true := fun z hz => by
        obtain ⟨i, hi⟩ := List.getElem?_of_mem hz
        have il := (List.getElem?_eq_some_iff.mp hi).1
        obtain ⟨u, hu⟩ : ∃ u, W[i]? = some u := ⟨_, List.getElem?_eq_getElem (by omega)⟩
        obtain ⟨l, x, y, hl, hx, hy, k1, k2, k3, k4⟩ := kid i u hu
        have h := Ea i u x y (by omega) hu hx hy
        rw [hi, k3] at h
        exact Option.some.inj h
      have fW : trFacts (.mk W (owns Q1 ds)) = trFs W (owns Q1 ds) := by
        have ne : W.isEmpty = false := by
          cases hW : W with
          | nil => rw [hW, hlen] at Wl; cases Wl
          | cons _ _ => rfl
        conv => lhs; unfold trFacts
        rw [ne, if_neg Bool.false_ne_true]
      refine ⟨?_, rfl, ?_, ?_, ?_⟩
      · cases hW : W with
        | nil => rw [hW, hlen] at Wl; cases Wl
        | cons c cs =>
          refine .node (r := m) (by omega) (fun d hd => hf d (hown d hd).1) one (by rw [← hW, Wl, hlen]) (fun d hd => (hown d hd).2) fun u hu => ?_
          rw [← hW] at hu
          obtain ⟨i, hi⟩ := List.getElem?_of_mem hu
          obtain ⟨l, x, y, _, _, _, k1, _⟩ := kid i u hi
          exact k1
      · rw [fW]
        have h := trFs_sub (own := owns Q1 ds) (pick (fun a b => (trFacts a).Sublist (trFacts b)) fun u l _ k2 _ k4 => by rw [k4]; exact k2)
        rw [base] at h
        exact h
      · unfold enough
        exact List.all_eq_true.mpr fun z hz => bsT z hz
      · rw [fW, trFs_in (own := owns Q1 ds) (pick (fun a b => inAny ts (trFacts a) = inAny ts (trFacts b)) fun u l _ _ k3 k4 => by rw [k4]; exact k3), base]
/-- what a turn of the law needs of a showing -/
theorem shown_top {ts : List Stt} {p : Int} {ds : List PyData} (p1 : 1 < p) (hts : ∀ t ∈ ts, t.Ok) (hg : GoodL ds) : ShR p (sct ts p (tree p ds) none none) ∧ enough ts (sct ts p (tree p ds) none none) none none = true ∧ inAny ts (trFacts (sct ts p (tree p ds) none none)) = inAny ts ds ∧ trNum p (sct ts p (tree p ds) none none) = trNum p (tree p ds) ∧ trMany (sct ts p (tree p ds) none none) = trMany (tree p ds) := by
  have h := shown_ok p1 hts 6 ds none none (fun e _ => rkI_le _) hg.2.1 (fun _ e => nomatch e) (fun _ e => nomatch e) (by simpa using (show ds.Pairwise Lt from hg.2.2))
  obtain ⟨n1, n2⟩ := cut_nm ts p (tree p ds) none none
  have g := hg.sub h.sub
  refine ⟨⟨h.ok, h.nc, ?_, g.2.1, g.facts.2.2⟩, h.en, h.ins, n1, n2⟩
  rw [n2, tree_many]
  have := hg.1
  omega
end Sm
/-! The law itself. -/
namespace Sm
open PySem PySem.Spec PyProof.Rows L2 Vd RZ
theorem scLaw : FnScope ["script", "hand", "turn", "p", "facts", "tree", "own", "root", "again", "stretches", "others", "due", "told", "within", "wrong", "fact", "one"] ["script"] (defScope sLaw) := ⟨rfl, rfl, rfl, by decide +kernel, rfl, by decide +kernel, by decide +kernel⟩
theorem isK_sh {p : Int} : ∀ (k n : Nat) (t : Tr), ShOk p k t → trMany t ≤ 3000 → isK (2 * k + n + 4) (shD t) = true
  | k, n, t, ht, zt => by
    rcases sh_cases ht with ⟨n0, m, rfl, _, _, es⟩ | ⟨own, rfl, hf, hr0, es⟩ | ⟨r, c, cs, own, rfl, hr1, hf, hne, hl, hro, hcs, es⟩
    · rw [es]
      refine isK_tup (n := (2 * k + n) + 3) (by simp) fun e he => ?_
      simp only [List.mem_cons, List.not_mem_nil, or_false] at he
      rcases he with rfl | rfl | rfl
      · exact isK_str _ _
      · exact isK_w (.inl ⟨_, rfl⟩) _
      · exact isK_w (.inl ⟨_, rfl⟩) _
    · have zo := many_own (cs := []) (own := own)
      rw [es]
      refine isK_tup (n := (2 * k + n) + 3) (by simp) fun e he => ?_
      simp only [List.mem_cons, List.not_mem_nil, or_false] at he
      rcases he with rfl | rfl
      · exact isK_str _ _
      · exact isK_facts (by omega) hf _
    · obtain ⟨k', rfl⟩ : ∃ k', k = k' + 1 := ⟨k - 1, by omega⟩
      have zo := many_own (cs := c :: cs) (own := own)
      rw [es, show 2 * (k' + 1) + n + 4 = (2 * k' + n + 4 + 1) + 1 by omega]
      refine isK_tup (by simp) fun e he => ?_
      simp only [List.mem_cons, List.not_mem_nil, or_false] at he
      rcases he with rfl | rfl | rfl
      · exact isK_str _ _
      · refine isK_tup (by rw [List.length_map]; omega) fun e he => ?_
        obtain ⟨u, hu, rfl⟩ := List.mem_map.mp he
        have mk := many_kid (own := own) hu
        exact isK_sh k' n u ((hcs u hu).mono (by omega)) (by omega)
      · rw [show 2 * k' + n + 4 + 1 = (2 * k' + n + 2) + 3 by omega]
        exact isK_facts (by omega) hf _
section
variable {P : Program} {w : World} {K : PySem.W.Frag} {mg : Str → Option Value} {base : Heap}
structure TMk (P : Program) (w : World) (K : PySem.W.Frag) (mg : Str → Option Value) (base : Heap) (CP CT f : Addr) (fd : FuncData) : Prop where
  M : Mk K CT f
  F : FnOk P w K mg base CX0 13 f fd ["self", "p", "facts"] (spTInit CP CT K)
  hm : mg "Tree" = some (.ref CT)
  hb : Binds K fd ["self", "p", "facts"] []
structure Dl (P : Program) (w : World) (K : PySem.W.Frag) (mg : Str → Option Value) (base : Heap) (CP CT f1 : Addr) (fd1 : FuncData) : Prop where
  hand : Df P w K mg base "_law_hand" 1 ["script"] (spHand K)
  some : DSome P w K mg base
  prime : DY P w K mg base "_law_prime" 3 RP
  facts : Df P w K mg base "_law_facts" 5 ["hand", "most"] (spLFs K)
  TM : TMk P w K mg base CP CT f1 fd1
  tree : Df P w K mg base "_law_tree" 12 ["p", "facts"] (spLTree K 7)
  pair : Df P w K mg base "_law_pair" 12 ["p", "tree"] (spLPair K 7)
  lsts : Df P w K mg base "_law_stretches" 7 ["hand", "facts"] (spLStrs K)
  lshown : Df P w K mg base "_law_shown" 20 ["p", "tree", "place", "stretches", "is_top"] (spLShown K 7)
  shown : Df P w K mg base "shown" 16 ["tree", "stretches"] (spShown CP CT K)
  is : Df P w K mg base "_law_is" 17 ["told", "due"] (spIs K 17)
  rootof : Df P w K mg base "root_of" 14 ["p", "showing"] (spRootOf CP K)
  read : Df P w K mg base "read" 16 ["p", "root", "showing", "stretches"] (spRead CP K)
  due : Df P w K mg base "_law_due" 12 ["showing", "stretches"] (spLDue K)
  side : Df P w K mg base "_law_side" 2 ["fact", "stretch"] (spSide K)
  cT : Cls K CT
  no : ∀ f ∈ (["_top", "_many_made", "p", "facts", "many", "number"] : List Str), NoAttr K CT f
theorem prime1000 {d : PyData} (h : primeD d = true) : ∃ p, d = .int p ∧ 1000 ≤ p ∧ p ≤ 170141183460469231731687303715884105728 := by
  cases d with
  | int p =>
    obtain ⟨h1, h2⟩ := Bool.and_eq_true_iff.mp (show (decide (1000 ≤ p) && decide (p ≤ 170141183460469231731687303715884105728)) = true from h)
    exact ⟨p, rfl, of_decide_eq_true h1, of_decide_eq_true h2⟩
  | _ => cases h
theorem TreeAt.kt0 {CP CT : Addr} {p : Int} {H H' : Hp} {t : Addr} {v : V} {ds : List PyData} (h : TreeAt CP CT p K H t v ds) (k : ∀ CP, Kt CP H H') (hk : keyTs ds = true) (kt : ∀ o, H t = some o → H' t = some o) : TreeAt CP CT p K H' t v ds := by
  obtain ⟨dx, b, h1, h2, h3⟩ := h
  exact ⟨dx, b, kt _ h1, h2.kt (k CP), dd_kt (k CP) (by unfold keyT; exact hk) h3⟩
/-- what a turn holds to -/
structure Turn (K : PySem.W.Frag) (CP CT a c : Addr) (p : Int) (fv tv ov rv : V) (ds : List PyData) (H : Hp) : Prop where
  hh : HandC H a c
  pr : PrR p
  fs : FactsAt K H fv ds
  g : GoodL ds
  t : ∃ t, tv = .ref t ∧ TreeAt CP CT p K H t fv ds
  o : Dd K H ov (shD (tree p ds))
  r : ∃ R, rv = .ref R ∧ TupN H R [.int (trNum p (tree p ds)), .int (trMany (tree p ds) : Int)]
theorem Turn.same {CP CT a c : Addr} {p : Int} {fv tv ov rv : V} {ds : List PyData} {H H' : Hp} (h : Turn K CP CT a c p fv tv ov rv ds H) (s : Same H H') : Turn K CP CT a c p fv tv ov rv ds H' := by
  obtain ⟨h1, h2, h3, h4, ⟨t, rfl, dx, b, t1, t2, t3⟩, h6, R, rfl, h7⟩ := h
  exact ⟨h1.same s, h2, h3.kt (kt_same s), h4, ⟨t, rfl, dx, b, s _ _ t1, t2.kt (kt_same s), t3.same s⟩, h6.same s, R, rfl, h7.same s⟩
theorem Turn.keep {CP CT a c : Addr} {p : Int} {fv tv ov rv : V} {ds : List PyData} {H H' : Hp} (h : Turn K CP CT a c p fv tv ov rv ds H) (hh' : HandC H' a c) (k : Keep a H H') : Turn K CP CT a c p fv tv ov rv ds H' := by
  obtain ⟨h1, h2, h3, h4, ⟨t, rfl, dx, b, t1, t2, t3⟩, h6, R, rfl, h7⟩ := h
  obtain ⟨xs, hl⟩ := h1.live
  have kt : ∀ CP, Kt CP H H' := fun CP => kt_keep hl (fun e => e) k
  have ne : t ≠ a := fun e => by
    rw [e, hl] at t1
    cases t1
  exact ⟨hh', h2, h3.kt (kt 0), h4, ⟨t, rfl, dx, b, k _ _ ne t1, t2.kt (kt CP), dd_kt (kt 0) (by unfold keyT; exact (facts_dp h4.2.1).1) t3⟩, dd_kt (kt 0) (tree_key (facts_dp h4.2.1).1) h6, R, rfl, TupN.kt h7 (kt 0)⟩
def spLaw (K : PySem.W.Frag) : Sp := fun vs H Q _ => ∃ (a : Addr) (ns : List Int), vs = [.ref a] ∧ SqL K H a (ns.map V.int) ∧ ns.length ≤ 63 ∧ ∀ H', Q (.bl true) H'
theorem ok_law {f CP CT f1 : Addr} {fd fd1 : FuncData} (F : FnP K "law" sLaw f fd) (M : Nm mg) (M2 : Nm2 mg) (Dx : Dl P w K mg base CP CT f1 fd1) : FnOk P w K mg base CX0 26 f fd ["script"] (spLaw K) := by
  refine F.ok scLaw (fun vs H Q E h => ?_) (fun cdv A outer s H vs Q E hr h => ?_)
  · obtain ⟨a, ns, rfl, _⟩ := h
    rfl
  obtain ⟨sa, ns, rfl, hS, hl, q⟩ := h
  refine ⟨_, PSs.nox (pss_cons (ps_set (i := 1) scLaw.nd rfl (Or.inl rfl) (pe_df Dx.hand hr (by decide) (pa_cons (pv 0) pa_nil)))
      (pss_cons (ps_for PassesOwn.never rfl (pi_range1 rfl M.range (pa_cons pe_int pa_nil)) (pg_name (i := 2) scLaw.nd rfl (Or.inl rfl)) (pss_cons (ps_par (i := 3) (j := 4) (by rfl) scLaw.nd rfl rfl (by decide) rfl rfl (pa_cons (pe_df Dx.prime hr (by decide) (pa_cons (pv 1) pa_nil)) (pa_cons (pe_df Dx.facts hr (by decide) (pa_cons (pv 1) (pa_cons (pe_df Dx.some hr (by decide) (pa_cons (pv 1) (pa_cons (pe_lst (pa_cons pe_int (pa_cons pe_int (pa_cons pe_int (pa_cons pe_int pa_nil))))) pa_nil))) pa_nil))) pa_nil)) (by rfl))
      (pss_cons (ps_par (i := 5) (j := 6) (by rfl) scLaw.nd rfl rfl (by decide) rfl rfl (pa_cons (pe_make Dx.TM.M Dx.TM.F (hr.mono (by decide)) (by rfl) Dx.TM.hm Dx.TM.hb .nil pass0 (pa_cons (pv 3) (pa_cons (pv 4) pa_nil))) (pa_cons (pe_df Dx.tree hr (by decide) (pa_cons (pv 3) (pa_cons (pv 4) pa_nil))) pa_nil)) (by rfl))
      (pss_cons (ps_set (i := 7) scLaw.nd rfl (Or.inl rfl) (pe_df Dx.pair hr (by decide) (pa_cons (pv 3) (pa_cons (pv 6) pa_nil))))
      (pss_one (ps_for PassesOwn.never rfl (pi_range1 rfl M.range (pa_cons pe_int pa_nil)) (pg_name (i := 8) scLaw.nd rfl (Or.inl rfl)) (pss_cons (ps_asg (pe_tup (pa_cons (pe_df Dx.lsts hr (by decide) (pa_cons (pv 1) (pa_cons (pv 4) pa_nil))) (pa_cons (pe_df Dx.lsts hr (by decide) (pa_cons (pv 1) (pa_cons (pv 4) pa_nil))) pa_nil))) (pg_tup rfl (pgs_cons (pg_name (i := 9) scLaw.nd rfl (Or.inr rfl)) (pgs_cons (pg_name (i := 10) scLaw.nd rfl (Or.inl rfl)) pgs_nil))))
      (pss_cons (ps_set (i := 11) scLaw.nd rfl (Or.inl rfl) (pe_df Dx.lshown hr (by decide) (pa_cons (pv 3) (pa_cons (pv 6) (pa_cons (pe_tup (pa_cons pe_non (pa_cons pe_non pa_nil))) (pa_cons (pv 9) (pa_cons pe_bl pa_nil)))))))
      (pss_cons (ps_set (i := 12) scLaw.nd rfl (Or.inl rfl) (pe_df Dx.shown hr (by decide) (pa_cons (pv 5) (pa_cons (pv 9) pa_nil))))
      (pss_cons (ps_if (PW.pt (pw_or (pt_not (pt_val (pe_df Dx.is hr (by decide) (pa_cons (pv 12) (pa_cons (pv 11) pa_nil))))) (pw_or1 (pt_not (pt_val (pe_df Dx.is hr (by decide) (pa_cons (pe_df Dx.rootof hr (by decide) (pa_cons (pv 3) (pa_cons (pv 12) pa_nil))) (pa_cons (pv 7) pa_nil)))))))) (pss_one (ps_ret pe_bl)) pss_nil)
      (pss_cons (ps_set (i := 13) scLaw.nd rfl (Or.inl rfl) (pe_callTy (r := rTupOf K) call_tuple_of (by rfl) M.tuple (by decide +kernel) (pa_cons (pe_lc (own := [("fact", 15)]) (g := gName 15) (tt := tTest (tOp (rIn K false) (tC (.int 0)) (tLc (iTup K (tVar 9)) (gName 16) tYes (tCall (spSide K) [] E0 (tCons (tVar 15) (tCons (tVar 16) tNil))) [16]))) (by rfl) scLaw.nd (pi_tup (pv 4)) (blkOk_by (N := ["script", "hand", "turn", "p", "facts", "tree", "own", "root", "again", "stretches", "others", "due", "told", "within", "wrong", "fact", "one"]) (sc := defScope sLaw) (by decide +kernel)) (fun _ _ _ _ _ => pg_name (i := 15) scLaw.nd rfl (Or.inr rfl)) (fun _ _ _ _ _ => pts_one (pt_cmpR op_in_seq pe_int (pe_lc (own := [("one", 16)]) (g := gName 16) (tt := tYes) (by rfl) scLaw.nd (pi_tup (pv 9)) (blkOk_by (N := ["script", "hand", "turn", "p", "facts", "tree", "own", "root", "again", "stretches", "others", "due", "told", "within", "wrong", "fact", "one"]) (sc := { kind := ScopeKind.function, names := [((".0" : Str), NameKind.local), (("fact" : Str), NameKind.cell), (("stretches" : Str), NameKind.cell)], isGenerator := false, isCoroutine := false }) (by decide +kernel)) (fun _ _ _ _ _ => pg_name (i := 16) scLaw.nd rfl (Or.inl rfl)) (fun _ _ _ _ _ => pts_nil) (fun _ _ _ _ _ => (pe_df Dx.side hr (by decide) (pa_cons (pv 15) (pa_cons (pv 16) pa_nil))))) (by rfl))) (fun _ _ _ _ _ => (pv 15))) pa_nil)))
      (pss_cons (ps_if (PW.pt (pw_or (pt_not (pt_val (pe_df Dx.is hr (by decide) (pa_cons (pe_df Dx.read hr (by decide) (pa_cons (pv 3) (pa_cons (pv 7) (pa_cons (pv 11) (pa_cons (pv 9) pa_nil))))) (pa_cons (pv 13) pa_nil))))) (pw_or1 (pt_cmpR (r := rNeT K) (op_neT (hu64 hr)) (pe_df Dx.due hr (by decide) (pa_cons (pv 11) (pa_cons (pv 9) pa_nil))) (pv 13) (nomark _))))) (pss_one (ps_ret pe_bl)) pss_nil)
      (pss_cons (ps_if (pt_not (pt_val (pe_df Dx.is hr (by decide) (pa_cons (pe_df Dx.read hr (by decide) (pa_cons (pv 3) (pa_cons (pv 7) (pa_cons (pv 11) (pa_cons (pv 10) pa_nil))))) (pa_cons (pe_df Dx.due hr (by decide) (pa_cons (pv 11) (pa_cons (pv 10) pa_nil))) pa_nil))))) (pss_one (ps_ret pe_bl)) pss_nil)
      (pss_cons (ps_set (i := 14) scLaw.nd rfl (Or.inl rfl) (pe_df Dx.some hr (by decide) (pa_cons (pv 1) (pa_cons (pe_lst (pa_cons (pe_tup (pa_cons (pe_op op_add (pe_ix (r := rIxT K) ix_tup (pv 7) pe_int (fun _ _ => rfl)) pe_int) (pa_cons (pe_ix (r := rIxT K) ix_tup (pv 7) pe_int (fun _ _ => rfl)) pa_nil))) (pa_cons (pe_tup (pa_cons (pe_ix (r := rIxT K) ix_tup (pv 7) pe_int (fun _ _ => rfl)) (pa_cons (pe_op op_add (pe_ix (r := rIxT K) ix_tup (pv 7) pe_int (fun _ _ => rfl)) pe_int) pa_nil))) (pa_cons (pe_tup (pa_cons pe_int (pa_cons pe_int pa_nil))) pa_nil)))) pa_nil))))
      (pss_one (ps_if (PW.pt (pw_and (pt_cmpR (r := rNeT K) (op_neT (hu64 hr)) (pv 14) (pv 7) (nomark _)) (pw_and1 (pt_cmpR op_notN (pe_df Dx.read hr (by decide) (pa_cons (pv 3) (pa_cons (pv 14) (pa_cons (pv 11) (pa_cons (pv 9) pa_nil))))) pe_non (nomark _))))) (pss_one (ps_ret pe_bl)) pss_nil))))))))))))))))
      (pss_one (ps_ret pe_bl)))), ?_⟩
  refine ⟨_, rfl, sa, ns, rfl, hS, hl, fun H1 a s1 n1 hp => ?_⟩
  obtain ⟨c, hh⟩ := hp
  refine ⟨3, rfl, by decide, by decide, ?_⟩
  refine for_range (lo := 0) (n := 3) (fun i σ H' => HandC H' a c ∧ ∃ x2 x3 x4 x5 x6 x7 x8 x9 x10 x11 x12 x13 x14 x15 x16, σ = [some (.ref sa), some (.ref a), x2, x3, x4, x5, x6, x7, x8, x9, x10, x11, x12, x13, x14, x15, x16]) ⟨hh, _, _, _, _, _, _, _, _, _, _, _, _, _, _, _, rfl⟩ (fun i σ H2 hi z => ?_) (fun σ H' z => ?_)
  · obtain ⟨hh2, x2, x3, x4, x5, x6, x7, x8, x9, x10, x11, x12, x13, x14, x15, x16, rfl⟩ := z
    refine ⟨_, rfl, a, c, rfl, hh2, fun v1 d1 H3 r1 hh3 k3 hd1 => ?_⟩
    obtain ⟨p, rfl, p0, p2⟩ := prime1000 r1.1
    cases dd_int (Dd.same vis_same hd1)
    refine ⟨_, rfl, _, rfl, by rw [sizeLine_eq]; exact (by decide : 4 ≤ 16777216), fun L nL => ?_⟩
    have La : L ≠ a := hh3.live.ne nL
    refine ⟨a, c, L, _, rfl, hh3.set La (hh3.cne nL), La, SqL.of upd_same, (by decide : 0 < 4), (by decide : 4 ≤ 1000), fun x H4 hx hh4 k4 => ?_⟩
    obtain ⟨m, rfl, m0, m1⟩ : ∃ m : Int, x = .int m ∧ 0 ≤ m ∧ m ≤ 100 := by
      simp only [List.mem_cons, List.not_mem_nil, or_false] at hx
      rcases hx with rfl | rfl | rfl | rfl <;> exact ⟨_, rfl, by decide, by decide⟩
    refine ⟨a, c, m, rfl, hh4, m0, m1, fun v rs H5 hh5 k5 hv g5 z5 => ⟨_, _, rfl, ?_⟩⟩
    have p1 : 1 < p := by omega
    have hfl := g5.2.1
    have hz3 : rs.length ≤ 3000 := by omega
    obtain ⟨fa, fx, rfl, hfa, hfd⟩ := ofTup hv
    refine ⟨_, rfl, _, rfl, fun t dx nt ndx ne => ⟨t, dx, p, .ref fa, rs, rfl, upd_same, ?_, g5.facts, hz3, p0, p2, fun H7 ta k7 ht7 part7 => ⟨rfl, ?_⟩⟩⟩
    · exact hv.same (Same.trans (same_up ndx) (same_up (by rw [upd_ne (Ne.symm ne)]; exact nt)))
    have s7 : Same H5 H7 := make_same nt ndx k7
    have hh7 := hh5.same s7
    have tree7 : TreeAt CP CT p K H7 t (.ref fa) rs := ⟨dx, ta, ht7, part7, hv.same s7⟩
    refine ⟨_, rfl, _, rfl, p, fa, fx, rs, rfl, p1, p2, .inr (hfa.same s7), DdAll.same s7 hfd, hz3, hfl, fun e _ => rkI_le _, fun ov H8 s8 hov => ⟨_, _, rfl, ?_⟩⟩
    refine ⟨_, rfl, _, rfl, p, ov, rs, rfl, p1, p2, hov, hfl, hz3, fun e _ => rkI_le _, fun R H9 s9 hR => ?_⟩
    have tree8 : TreeAt CP CT p K H8 t (.ref fa) rs := by
      obtain ⟨dx', b, t1, t2, t3⟩ := tree7
      exact ⟨dx', b, s8 _ _ t1, t2.kt (kt_same s8), t3.same s8⟩
    have turn9 : Turn K CP CT a c p (.ref fa) (.ref t) ov (.ref R) rs H9 := by
      have h8 : Turn K CP CT a c p (.ref fa) (.ref t) ov (.ref R) rs H9 := by
        obtain ⟨dx', b, t1, t2, t3⟩ := tree8
        exact ⟨(hh7.same s8).same s9, ⟨p0, p2⟩, ⟨fa, fx, rfl, ((hfa.same s7).same s8).same s9, DdAll.same s9 (DdAll.same s8 (DdAll.same s7 hfd)), hfl, g5.1⟩, g5, ⟨t, rfl, dx', b, s9 _ _ t1, t2.kt (kt_same s9), t3.same s9⟩, hov.same s9, R, rfl, hR⟩
      exact h8
    refine ⟨3, rfl, by decide, by decide, ?_⟩
    refine for_range (lo := 0) (n := 3) (fun j σ H' => Turn K CP CT a c p (.ref fa) (.ref t) ov (.ref R) rs H' ∧ ∃ x8 x9 x10 x11 x12 x13 x14 x15 x16, σ = [some (.ref sa), some (.ref a), some (.int (0 + (i : Nat))), some (.int p), some (.ref fa), some (.ref t), some ov, some (.ref R), x8, x9, x10, x11, x12, x13, x14, x15, x16]) ⟨turn9, _, _, _, _, _, _, _, _, _, rfl⟩ (fun j σ H10 hj z => ?_) (fun σ H' z => ?_)
    · obtain ⟨T10, x8, x9, x10, x11, x12, x13, x14, x15, x16, rfl⟩ := z
      refine ⟨_, rfl, _, rfl, a, c, .ref fa, rs, rfl, T10.hh, T10.fs, fun sv ts H11 hh11 k11 hsv z11 ok11 => ?_⟩
      have T11 := T10.keep hh11 k11
      refine ⟨_, rfl, _, rfl, a, c, .ref fa, rs, rfl, hh11, T11.fs, fun sv2 ts2 H12 hh12 k12 hsv2 z12 ok12 => ⟨by rw [sizeLine_eq]; exact (by decide : 2 ≤ 16777216), fun P nP => ?_⟩⟩
      have T12 := T11.keep hh12 k12
      have kt12 := ktK hh11.live k12
      have hsv12 : Dd K H12 sv (.tuple (ts.map Stt.d)) := by
        obtain ⟨sa', ys, rfl, q1, q2⟩ := ofTup hsv
        exact .tup (TupN.kt q1 kt12) (sts_kt kt12 ok11 q2)
      have s13 := same_up (o := .tup [sv, sv2]) nP
      have e13 : upd H12 P (.tup [sv, sv2]) P = some (.tup [sv, sv2]) := upd_same
      have T13 := T12.same s13
      have hsv13 := hsv12.same s13
      have hsw13 := hsv2.same s13
      generalize upd H12 P (.tup [sv, sv2]) = H13 at s13 e13 T13 hsv13 hsw13 ⊢
      clear T12 T11 T10
      refine ⟨P, _, rfl, TupN.sq (.inl e13), rfl, sv, [sv2], rfl, sv2, [], rfl, rfl, ?_⟩
      have st1 : StrsK (.tuple (ts.map Stt.d)) ts := ⟨rfl, by omega, ok11⟩
      have st2 : StrsK (.tuple (ts2.map Stt.d)) ts2 := ⟨rfl, by omega, ok12⟩
      obtain ⟨hSh, hen, hin, hnum, hmany⟩ := shown_top (ts := ts) p1 ok11 g5
      have hshT : shT ts p true (tree p rs) none none = sct ts p (tree p rs) none none := rfl
      generalize sct ts p (tree p rs) none none = S at hSh hen hin hnum hmany hshT
      -- due
      refine ⟨_, rfl, _, rfl, by rw [sizeLine_eq]; exact (by decide : 2 ≤ 16777216), fun P2 nP2 => ?_⟩
      have s14 := same_up (o := .tup [V.non, .non]) nP2
      refine ⟨_, rfl, p, ov, rs, .ref P2, sv, none, none, _, ts, true, rfl, p1, p2, T13.o.same s14, hfl, hz3, fun e _ => rkI_le _, ⟨P2, .non, .non, rfl, .inl upd_same, .non, .non, (fun _ e => nomatch e), (fun _ e => nomatch e)⟩, hsv13.same s14, st1, fun du H15 s15 hdu => ?_⟩
      rw [hshT] at hdu
      have T15 := (T13.same s14).same s15
      have hsv15 := (hsv13.same s14).same s15
      have hsw15 := (hsw13.same s14).same s15
      clear T13 hsv13 hsw13
      -- told
      obtain ⟨t', et, tree15⟩ := T15.t
      cases et
      refine ⟨_, rfl, _, rfl, t, p, .ref fa, sv, rs, _, ts, rfl, tree15, hz3, hfl, hsv15, st1, fun tv H16 s16 htv => ?_⟩
      have hst : sct ts p (tree p rs) none none = S := hshT
      rw [hst] at htv
      have T16 := T15.same s16
      have hdu16 := hdu.same s16
      have kS : isK 16 (shD S) = true := isK_sh 6 0 S hSh.ok hSh.z
      refine ⟨_, rfl, _, rfl, tv, du, shD S, rfl, htv, hdu16, kS, fun H17 s17 => ⟨_, rfl, tst (fun e => by cases e) fun _ => ?_⟩⟩
      have T17 := T16.same s17
      refine ⟨_, rfl, _, rfl, p, tv, S, rfl, ⟨p0, p2⟩, htv.same s17, hSh, fun T2 H18 s18 hT2 => ?_⟩
      have T18 := T17.same s18
      obtain ⟨R', eR, hR18⟩ := T18.r
      cases eR
      have kR : ∀ x y : Int, isK 16 (.tuple [.int x, .int y]) = true := fun x y => rfl
      have dR : ∀ {H' : Hp} {T' : Addr} {x y : Int}, TupN H' T' [V.int x, V.int y] → Dd K H' (.ref T') (.tuple [.int x, .int y]) := fun h => .tup h (.cons (.int _) (.cons (.int _) .nil))
      rw [hnum, hmany] at hT2
      refine ⟨_, rfl, .ref T2, .ref R, _, rfl, dR hT2, dR hR18, kR _ _, fun H19 s19 => ⟨_, rfl, tst (fun e => by cases e) fun _ => ?_⟩⟩
      have T19 := T18.same s19
      have s1519 := ((s16.trans s17).trans s18).trans s19
      have hsv19 := hsv15.same s1519
      have hsw19 := hsw15.same s1519
      have hdu19 := hdu.same s1519
      -- within
      obtain ⟨sa2, sys, rfl, hs1, hs2⟩ := ofTup hsv19
      obtain ⟨fa', fx', ef, hfa19, hfd19, _, _⟩ := T19.fs
      cases ef
      show tCB (rTupOf K) (tCons (tLc (iTup K (tVar 4)) (gName 15) _ (tVar 15) [15]) tNil) _ _ _
      refine within_tup (σ := [some (.ref sa), some (.ref a), some (.int (0 + (i : Nat))), some (.int p), some (.ref fa), some (.ref t), some ov, some (.ref R), some (.int (0 + (j : Nat))), some (.ref sa2), some sv2, some du, some tv, x13, x14, x15, x16]) (ds := rs) (m := 15) (j := 16) (s := 9) (fun Q' q' => ⟨_, rfl, q' fa fx' H19 (Same.refl _) hfa19 hfd19⟩) hfl (by omega) hs1 hs2 ok11 (by omega) (fun _ => rfl) (fun _ => rfl) (fun _ _ => rfl) (fun _ _ => rfl) (fun _ _ => rfl) (fun _ => rfl) (fun wv H20 s20 hwv => ?_)
      have T20 := T19.same s20
      have hdu20 := hdu19.same s20
      have hsv20 := hsv19.same s20
      have hsw20 := hsw19.same s20
      obtain ⟨R', eR, hR20⟩ := T20.r
      cases eR
      have rn := trNum_rng p1 rs
      have rm := tree_many p rs
      have root20 : RootAt H20 (.ref R) (trNum p (tree p rs)) (trMany (tree p rs) : Int) := ⟨R, rfl, hR20, rn.1, by omega, by omega, by omega⟩
      have hfi : ∀ us : List Stt, FactL (inAny us rs) := fun us d hd => hfl d (List.mem_filter.mp hd).1
      have hfS : ∀ us : List Stt, FactL (inAny us (trFacts S)) := fun us d hd => hSh.f d (List.mem_filter.mp hd).1
      have zS := trFacts_len S
      have zSz := hSh.z
      have lin : ∀ (us : List Stt) (l : List PyData), (inAny us l).length ≤ l.length := fun us l => List.length_filter_le _ _
      refine ⟨_, rfl, _, rfl, _, rfl, _, rfl, p, .ref R, du, .ref sa2, trNum p (tree p rs), (trMany (tree p rs) : Int), S, _, ts, rfl, ⟨p0, p2⟩, root20, hdu20, hSh, hsv20, st1, fun u H21 s21 hu => ?_⟩
      have hu : Dd K H21 u (.tuple (inAny ts rs)) := by
        rcases hu with ⟨rfl, h⟩ | ⟨_, _, h⟩
        · rw [h ⟨hnum.symm, by rw [hmany]⟩] at hen
          cases hen
        · rw [hin] at h
          exact h
      have kin : ∀ us : List Stt, isK 16 (.tuple (inAny us rs)) = true := fun us => isK_facts (n := 13) (by have := lin us rs; omega) (hfi us)
      refine ⟨_, rfl, u, wv, _, rfl, hu, hwv.same s21, kin ts, fun H22 s22 => ⟨_, rfl, tst (fun e => by cases e) fun _ => ?_⟩⟩
      have s2022 := s21.trans s22
      refine ⟨_, rfl, _, rfl, p, du, .ref sa2, S, _, ts, rfl, hdu20.same s2022, hSh, hsv20.same s2022, st1, fun u2 H23 s23 hu2 => ?_⟩
      have hu2 : Dd K H23 u2 (.tuple (inAny ts rs)) := by
        rcases hu2 with ⟨h, _⟩ | ⟨_, h⟩
        · rw [h] at hen
          cases hen
        · rw [hin] at h
          exact h
      have kd := facts_dp (hfi ts)
      have s2023 := s2022.trans s23
      refine ⟨_, rfl, _, _, hu2, hwv.same s2023, kd.1, kd.1, kd.2, kd.2, _, rfl, ?_⟩
      rw [eqDs_refl kd.1]
      refine iteF ?_
      -- others
      have T23 := T20.same s2023
      have hdu23 := hdu20.same s2023
      have hsw23 := hsw20.same s2023
      refine ⟨_, rfl, _, rfl, _, rfl, _, rfl, p, .ref R, du, sv2, trNum p (tree p rs), (trMany (tree p rs) : Int), S, _, ts2, rfl, ⟨p0, p2⟩, root20.same s2023, hdu23, hSh, hsw23, st2, fun u3 H24 s24 hu3 => ?_⟩
      refine ⟨_, rfl, _, rfl, p, du, sv2, S, _, ts2, rfl, hdu23.same s24, hSh, hsw23.same s24, st2, fun u4 H25 s25 hu4 => ?_⟩
      have both : ∃ d, Dd K H25 u3 d ∧ Dd K H25 u4 d ∧ isK 16 d = true := by
        rcases hu3 with ⟨rfl, h⟩ | ⟨_, h1, h⟩ <;> rcases hu4 with ⟨h2, rfl⟩ | ⟨h2, h4⟩
        · exact ⟨.none, .non, .non, rfl⟩
        · rw [h ⟨hnum.symm, by rw [hmany]⟩] at h2
          cases h2
        · rw [h1] at h2
          cases h2
        · exact ⟨_, h.same s25, h4, isK_facts (n := 13) (by have := lin ts2 (trFacts S); omega) (hfS ts2)⟩
      obtain ⟨d3, g3, g4, gk⟩ := both
      refine ⟨u3, u4, d3, rfl, g3, g4, gk, fun H26 s26 => ⟨_, rfl, tst (fun e => by cases e) fun _ => ?_⟩⟩
      have s2326 := (s24.trans s25).trans s26
      have T26 := T23.same s2326
      have hdu26 := hdu23.same s2326
      have hsv26 := (hsv20.same s2023).same s2326
      obtain ⟨R', eR, hR26⟩ := T26.r
      cases eR
      have pair : ∀ {H' : Hp} {T' : Addr} {x y : Int} (n0 : H' T' = none), Same H' (upd H' T' (.tup [V.int x, V.int y])) := fun n0 => same_up n0
      refine ⟨_, rfl, _, rfl, R, _, 0, _, rfl, rfl, hR26.sq, atI_nat (j := 0) rfl, _, _, rfl, rfl, _, rfl, R, _, 1, _, rfl, rfl, hR26.sq, atI_nat (j := 1) rfl, by rw [sizeLine_eq]; exact (by decide : 2 ≤ 16777216), fun A1 m1 => ?_⟩
      have t1 := same_up (o := .tup [V.int (trNum p (tree p rs) + 1), .int (trMany (tree p rs) : Int)]) m1
      have f1 : upd H26 A1 (.tup [V.int (trNum p (tree p rs) + 1), .int (trMany (tree p rs) : Int)]) A1 = some (.tup [V.int (trNum p (tree p rs) + 1), .int (trMany (tree p rs) : Int)]) := upd_same
      generalize upd H26 A1 (.tup [V.int (trNum p (tree p rs) + 1), .int (trMany (tree p rs) : Int)]) = H27 at t1 f1 ⊢
      have hR27 := hR26.same t1
      refine ⟨_, rfl, R, _, 0, _, rfl, rfl, TupN.sq hR27, atI_nat (j := 0) rfl, _, rfl, R, _, 1, _, rfl, rfl, TupN.sq hR27, atI_nat (j := 1) rfl, _, _, rfl, rfl, by rw [sizeLine_eq]; exact (by decide : 2 ≤ 16777216), fun A2 m2 => ?_⟩
      have t2 := same_up (o := .tup [V.int (trNum p (tree p rs)), .int ((trMany (tree p rs) : Int) + 1)]) m2
      have f2 : upd H27 A2 (.tup [V.int (trNum p (tree p rs)), .int ((trMany (tree p rs) : Int) + 1)]) A2 = some (.tup [V.int (trNum p (tree p rs)), .int ((trMany (tree p rs) : Int) + 1)]) := upd_same
      generalize upd H27 A2 (.tup [V.int (trNum p (tree p rs)), .int ((trMany (tree p rs) : Int) + 1)]) = H28 at t2 f2 ⊢
      refine ⟨by rw [sizeLine_eq]; exact (by decide : 2 ≤ 16777216), fun A3 m3 => ⟨by rw [sizeLine_eq]; exact (by decide : 3 ≤ 16777216), fun L5 nL5 => ?_⟩⟩
      have t3 := same_up (o := .tup [V.int 0, .int 0]) m3
      have f3 : upd H28 A3 (.tup [V.int 0, .int 0]) A3 = some (.tup [V.int 0, .int 0]) := upd_same
      generalize upd H28 A3 (.tup [V.int 0, .int 0]) = H29 at t3 f3 nL5 ⊢
      have t13 := (t1.trans t2).trans t3
      have T29 := T26.same t13
      have L5a : L5 ≠ a := T29.hh.live.ne nL5
      have t4 := same_up (o := .lst [V.ref A1, .ref A2, .ref A3]) nL5
      refine ⟨a, c, L5, _, rfl, T29.hh.set L5a (T29.hh.cne nL5), L5a, SqL.of upd_same, (by decide : 0 < 3), (by decide : 3 ≤ 1000), fun x H30 hx hh30 k30 => ?_⟩
      have k29 : Keep a H29 H30 := Keep.trans (keepS t4) k30
      have T30 := T29.keep hh30 k29
      have kt30 := ktK T29.hh.live k29
      obtain ⟨W, n, m, rfl, hW, n0, nb, m0, mb⟩ : ∃ (W : Addr) (n m : Int), x = .ref W ∧ TupN H29 W [.int n, .int m] ∧ 0 ≤ n ∧ n.natAbs < 2 ^ 200 ∧ 0 ≤ m ∧ m.natAbs < 2 ^ 200 := by
        simp only [List.mem_cons, List.not_mem_nil, or_false] at hx
        rcases hx with rfl | rfl | rfl
        · exact ⟨A1, _, _, rfl, .inl ((t2.trans t3) _ _ f1), by omega, by omega, by omega, by omega⟩
        · exact ⟨A2, _, _, rfl, .inl (t3 _ _ f2), by omega, by omega, by omega, by omega⟩
        · exact ⟨A3, _, _, rfl, .inl f3, by omega, by decide, by omega, by decide⟩
      have hW30 := TupN.kt hW kt30
      obtain ⟨R', eR, hR30⟩ := T30.r
      cases eR
      refine ⟨_, rfl, _, rfl, _, _, dR hW30, dR hR30, by simp [keyTs, keyT], by simp [keyTs, keyT], by simp [dpDs, dpD], by simp [dpDs, dpD], _, rfl, tst (fun e => ?_) fun _ => ⟨T30, _, _, _, _, _, _, _, _, _, rfl⟩⟩
      have nsame : ¬ (n = trNum p S ∧ m = (trMany S : Int)) := fun ⟨q1, q2⟩ => by
        rw [hnum] at q1
        rw [hmany] at q2
        subst q1 q2
        rw [eqDs_refl (by simp [keyTs, keyT])] at e
        cases e
      have kSk : keyT (shD S) = true := sh_key hSh.ok
      have hdu30 := dd_kt kt30 kSk (hdu26.same t13)
      have hsv30 : Dd K H30 (.ref sa2) (.tuple (ts.map Stt.d)) := by
        obtain ⟨sa', ys', e', q1, q2⟩ := ofTup (hsv26.same t13)
        cases e'
        exact .tup (TupN.kt q1 kt30) (sts_kt kt30 ok11 q2)
      refine ⟨_, rfl, _, rfl, _, rfl, _, rfl, p, .ref W, du, .ref sa2, n, m, S, _, ts, rfl, ⟨p0, p2⟩, ⟨W, rfl, hW30, n0, nb, m0, mb⟩, hdu30, hSh, hsv30, st1, fun u5 H31 s31 hu5 => ?_⟩
      have hu5 : u5 = .non := by
        rcases hu5 with ⟨h, _⟩ | ⟨h, _⟩
        · exact h
        · exact absurd h nsame
      subst hu5
      exact ⟨rfl, _, rfl, iteF ⟨T30.same s31, _, _, _, _, _, _, _, _, _, rfl⟩⟩
    · exact ⟨z.1.hh, _, _, _, _, _, _, _, _, _, _, _, _, _, _, _, z.2.choose_spec.choose_spec.choose_spec.choose_spec.choose_spec.choose_spec.choose_spec.choose_spec.choose_spec⟩
  · obtain ⟨_, x2, x3, x4, x5, x6, x7, x8, x9, x10, x11, x12, x13, x14, x15, x16, rfl⟩ := z
    exact q H'
end
end Sm
namespace Sm
open PySem PySem.Spec PyProof.Rows L2 Vd RZ
/-! ### the head: facts by names -/
theorem chk_ok {K : PySem.W.Frag} (c : chk K = true) : CutIs K (He.ga K "Part") := by
  obtain ⟨c1, c⟩ := He.ba c
  obtain ⟨c2, c⟩ := He.ba c
  obtain ⟨c3, c⟩ := He.ba c
  obtain ⟨c4, c⟩ := He.ba c
  obtain ⟨c5, c⟩ := He.ba c
  obtain ⟨c6, c7⟩ := He.ba c
  exact ⟨⟨He.eqO_ok c1, He.eqO_ok c2, of_decide_eq_true c3, of_decide_eq_true c4⟩, ⟨He.eqO_ok c5, He.eqO_ok c2, of_decide_eq_true c3, of_decide_eq_true c6⟩, of_decide_eq_true c7⟩
theorem facts {P : Program} {w : World} {K : PySem.W.Frag} {h : Heap} {mg : Str → Option Value} {f : Addr} (X : K.In h) (G : h.Ns mainGlobals mg) (hfa : mg ("law" : Str) = some (.ref f)) (ck : chk K = true) (c : He.SaysD fa fn K) :
    ∃ fd : FuncData, (∀ (s : Shared) (v : Value), BindsTo s fd ⟨[v], []⟩ [("script", v)]) ∧ ∀ base : Heap, K.In base → base.Ns mainGlobals mg → FnOk P w K mg base CX0 26 f fd ["script"] (spLaw K) := by
  obtain ⟨fddInteger, FdInteger⟩ := c.def_ 0 (d := dInteger) rfl
  obtain ⟨fddWord, FdWord⟩ := c.def_ 1 (d := dWord) rfl
  obtain ⟨fddWorth, FdWorth⟩ := c.def_ 2 (d := dWorth) rfl
  obtain ⟨fddName, FdName⟩ := c.def_ 3 (d := dName) rfl
  obtain ⟨fddTupleOf, FdTupleOf⟩ := c.def_ 4 (d := dTupleOf) rfl
  obtain ⟨fddRow, FdRow⟩ := c.def_ 5 (d := dRow) rfl
  obtain ⟨fddRising, FdRising⟩ := c.def_ 6 (d := dRising) rfl
  obtain ⟨fddWKey, FdWKey⟩ := c.def_ 7 (d := dWKey) rfl
  obtain ⟨fddRKey, FdRKey⟩ := c.def_ 8 (d := dRKey) rfl
  obtain ⟨fddFKey, FdFKey⟩ := c.def_ 9 (d := dFKey) rfl
  obtain ⟨fddPrime, FdPrime⟩ := c.def_ 10 (d := dPrime) rfl
  obtain ⟨fddCkP, FdCkP⟩ := c.def_ 11 (d := dCkP) rfl
  obtain ⟨fddText, FdText⟩ := c.def_ 12 (d := dText) rfl
  obtain ⟨fddMixed, FdMixed⟩ := c.def_ 13 (d := dMixed) rfl
  obtain ⟨fddFact, FdFact⟩ := c.def_ 14 (d := dFact) rfl
  obtain ⟨fddWorthText, FdWorthText⟩ := c.def_ 15 (d := dWorthText) rfl
  obtain ⟨fddTextOf, FdTextOf⟩ := c.def_ 16 (d := dTextOf) rfl
  obtain ⟨fddNText, FdNText⟩ := c.def_ 17 (d := dNText) rfl
  obtain ⟨fddRank, FdRank⟩ := c.def_ 18 (d := dRank) rfl
  obtain ⟨fddPText, FdPText⟩ := c.def_ 19 (d := dPText) rfl
  obtain ⟨fddCkF, FdCkF⟩ := c.def_ 20 (d := dCkF) rfl
  obtain ⟨fddStretch, FdStretch⟩ := c.def_ 21 (d := dStretch) rfl
  obtain ⟨fddBound, FdBound⟩ := c.def_ 22 (d := dBound) rfl
  obtain ⟨fddCkS, FdCkS⟩ := c.def_ 23 (d := dCkS) rfl
  obtain ⟨fddRB, FdRB⟩ := c.def_ 24 (d := dRB) rfl
  obtain ⟨fddRA, FdRA⟩ := c.def_ 25 (d := dRA) rfl
  obtain ⟨fddIn, FdIn⟩ := c.def_ 26 (d := dIn) rfl
  obtain ⟨fddBelow, FdBelow⟩ := c.def_ 27 (d := dBelow) rfl
  obtain ⟨fddAbove, FdAbove⟩ := c.def_ 28 (d := dAbove) rfl
  obtain ⟨fddShut, FdShut⟩ := c.def_ 29 (d := dShut) rfl
  obtain ⟨fddShutTo, FdShutTo⟩ := c.def_ 30 (d := dShutTo) rfl
  obtain ⟨fddShown, FdShown⟩ := c.def_ 31 (d := dShown) rfl
  obtain ⟨fddShow, FdShow⟩ := c.def_ 32 (d := dShow) rfl
  obtain ⟨fddHand, FdHand⟩ := c.def_ 33 (d := dHand) rfl
  obtain ⟨fddDraw, FdDraw⟩ := c.def_ 34 (d := dDraw) rfl
  obtain ⟨fddSome, FdSome⟩ := c.def_ 35 (d := dSome) rfl
  obtain ⟨fddLKey, FdLKey⟩ := c.def_ 36 (d := dLKey) rfl
  obtain ⟨fddSorted, FdSorted⟩ := c.def_ 37 (d := dSorted) rfl
  obtain ⟨fddLMix, FdLMix⟩ := c.def_ 38 (d := dLMix) rfl
  obtain ⟨fddLWorthText, FdLWorthText⟩ := c.def_ 39 (d := dLWorthText) rfl
  obtain ⟨fddLFactText, FdLFactText⟩ := c.def_ 40 (d := dLFactText) rfl
  obtain ⟨fddLNumber, FdLNumber⟩ := c.def_ 41 (d := dLNumber) rfl
  obtain ⟨fddLRank, FdLRank⟩ := c.def_ 42 (d := dLRank) rfl
  obtain ⟨fddLTree, FdLTree⟩ := c.def_ 43 (d := dLTree) rfl
  obtain ⟨fddLText, FdLText⟩ := c.def_ 44 (d := dLText) rfl
  obtain ⟨fddLPair, FdLPair⟩ := c.def_ 45 (d := dLPair) rfl
  obtain ⟨fddPrimeD, FdPrimeD⟩ := c.def_ 46 (d := dPrimeD) rfl
  obtain ⟨fddWorthD, FdWorthD⟩ := c.def_ 47 (d := dWorthD) rfl
  obtain ⟨fddFactD, FdFactD⟩ := c.def_ 48 (d := dFactD) rfl
  obtain ⟨fddLFs, FdLFs⟩ := c.def_ 49 (d := dLFs) rfl
  obtain ⟨fddIs, FdIs⟩ := c.def_ 50 (d := dIs) rfl
  obtain ⟨fddNumber, FdNumber⟩ := c.def_ 51 (d := dNumber) rfl
  obtain ⟨fddIsShow, FdIsShow⟩ := c.def_ 52 (d := dIsShow) rfl
  obtain ⟨fddIsCut, FdIsCut⟩ := c.def_ 53 (d := dIsCut) rfl
  obtain ⟨fddAreF, FdAreF⟩ := c.def_ 54 (d := dAreF) rfl
  obtain ⟨fddFactsIn, FdFactsIn⟩ := c.def_ 55 (d := dFactsIn) rfl
  obtain ⟨fddReadPart, FdReadPart⟩ := c.def_ 56 (d := dReadPart) rfl
  obtain ⟨fddPartIn, FdPartIn⟩ := c.def_ 57 (d := dPartIn) rfl
  obtain ⟨fddRootOf, FdRootOf⟩ := c.def_ 58 (d := dRootOf) rfl
  obtain ⟨fddCkRoot, FdCkRoot⟩ := c.def_ 59 (d := dCkRoot) rfl
  obtain ⟨fddRead, FdRead⟩ := c.def_ 60 (d := dRead) rfl
  obtain ⟨fddEnough, FdEnough⟩ := c.def_ 61 (d := dEnough) rfl
  obtain ⟨fddLSide, FdLSide⟩ := c.def_ 62 (d := dLSide) rfl
  obtain ⟨fddLClosed, FdLClosed⟩ := c.def_ 63 (d := dLClosed) rfl
  obtain ⟨fddLShown, FdLShown⟩ := c.def_ 64 (d := dLShown) rfl
  obtain ⟨fddLBound, FdLBound⟩ := c.def_ 65 (d := dLBound) rfl
  obtain ⟨fddLStr, FdLStr⟩ := c.def_ 66 (d := dLStr) rfl
  obtain ⟨fddLStrs, FdLStrs⟩ := c.def_ 67 (d := dLStrs) rfl
  obtain ⟨fddHidden, FdHidden⟩ := c.def_ 68 (d := dHidden) rfl
  obtain ⟨fddLTold, FdLTold⟩ := c.def_ 69 (d := dLTold) rfl
  obtain ⟨fddLDue, FdLDue⟩ := c.def_ 70 (d := dLDue) rfl
  obtain ⟨fddLaw, FdLaw⟩ := c.def_ 71 (d := dLaw) rfl
  obtain ⟨fdmPInit, FmPInit⟩ := c.def_ 72 (d := mPInit) rfl
  obtain ⟨fdmPlaced, FmPlaced⟩ := c.def_ 73 (d := mPlaced) rfl
  obtain ⟨fdmRInit, FmRInit⟩ := c.def_ 74 (d := mRInit) rfl
  obtain ⟨fdmItem, FmItem⟩ := c.def_ 75 (d := mItem) rfl
  obtain ⟨fdmRPart, FmRPart⟩ := c.def_ 76 (d := mRPart) rfl
  obtain ⟨fdmTree, FmTree⟩ := c.def_ 77 (d := mTree) rfl
  obtain ⟨fdmTInit, FmTInit⟩ := c.def_ 78 (d := mTInit) rfl
  obtain ⟨fdmCInit, FmCInit⟩ := c.def_ 79 (d := mCInit) rfl
  have e := hfa.symm.trans (He.glo_ok X G (c.fact 71 (f := .glo "law") rfl))
  cases e
  have b := FunD.bindsA (ps := ["script"]) FdLaw (fun _ _ _ _ _ _ us hl => match us, hl with | [_], _ => rfl)
  have M : Nm mg := {
    isinstance := (He.free_ok X G (c.fact 79 (f := .free "isinstance") rfl))
    int := (He.free_ok X G (c.fact 77 (f := .free "int") rfl))
    bool := (He.free_ok X G (c.fact 84 (f := .free "bool") rfl))
    tuple := (He.free_ok X G (c.fact 85 (f := .free "tuple") rfl))
    list := (He.free_ok X G (c.fact 86 (f := .free "list") rfl))
    str := (He.free_ok X G (c.fact 87 (f := .free "str") rfl))
    len := (He.free_ok X G (c.fact 78 (f := .free "len") rfl))
    all := (He.free_ok X G (c.fact 80 (f := .free "all") rfl))
    zip := (He.free_ok X G (c.fact 81 (f := .free "zip") rfl))
    range := (He.free_ok X G (c.fact 82 (f := .free "range") rfl))
    ord := (He.free_ok X G (c.fact 83 (f := .free "ord") rfl))
    LONGEST_WORD_ := (He.int_ok X G (c.fact 95 (f := .int "LONGEST_WORD" 20) rfl))
    LONGEST_NAME_ := (He.int_ok X G (c.fact 96 (f := .int "LONGEST_NAME" 8) rfl))
    LEAST_PRIME_ := (He.int_ok X G (c.fact 97 (f := .int "LEAST_PRIME" 1000) rfl))
    GREATEST_PRIME_ := (He.int_ok X G (c.fact 98 (f := .int "GREATEST_PRIME" 170141183460469231731687303715884105728) rfl))
    BEFORE_BLANK_ := (He.int_ok X G (c.fact 99 (f := .int "BEFORE_BLANK" 31) rfl)) }
  have M2 : Nm2 mg := {
    zip := (He.free_ok X G (c.fact 81 (f := .free "zip") rfl))
    max := (He.free_ok X G (c.fact 88 (f := .free "max") rfl))
    sum := (He.free_ok X G (c.fact 89 (f := .free "sum") rfl))
    enumerate := (He.free_ok X G (c.fact 90 (f := .free "enumerate") rfl))
    dict := (He.free_ok X G (c.fact 91 (f := .free "dict") rfl))
    sorted := (He.free_ok X G (c.fact 92 (f := .free "sorted") rfl))
    set := (He.free_ok X G (c.fact 93 (f := .free "set") rfl))
    GREATEST_RANK := (He.int_ok X G (c.fact 100 (f := .int "GREATEST_RANK" 6) rfl))
    LEAF := (He.int_ok X G (c.fact 101 (f := .int "LEAF" 1) rfl))
    NODE := (He.int_ok X G (c.fact 102 (f := .int "NODE" 2) rfl)) }
  have Z := chk_ok ck
  refine ⟨fddLaw, fun s v => b s [v] rfl, fun base _ _ => ?_⟩
  have hC := (He.cls_ok (c.fact 103 (f := .cls "Part") rfl))
  have hCR := (He.cls_ok (c.fact 104 (f := .cls "Reckoner") rfl))
  have hCT := (He.cls_ok (c.fact 105 (f := .cls "Tree") rfl))
  have hU : CutK K := ⟨(He.cls_ok (c.fact 106 (f := .cls "Cut") rfl)), (He.noat_ok (c.fact 119 (f := .noat "Cut" "number") rfl)), (He.noat_ok (c.fact 120 (f := .noat "Cut" "many") rfl))⟩
  have nu := (He.noat_ok (c.fact 116 (f := .noat "Part" "number") rfl))
  have nM := (He.noat_ok (c.fact 115 (f := .noat "Part" "many") rfl))
  have nP : ∀ f ∈ (["children", "own", "numbers", "rank", "many", "number"] : List Str), NoAttr K (He.ga K "Part") f := (fun f hf => by
    simp only [List.mem_cons, List.not_mem_nil, or_false] at hf
    rcases hf with rfl | rfl | rfl | rfl | rfl | rfl
    · exact (He.noat_ok (c.fact 111 (f := .noat "Part" "children") rfl))
    · exact (He.noat_ok (c.fact 112 (f := .noat "Part" "own") rfl))
    · exact (He.noat_ok (c.fact 113 (f := .noat "Part" "numbers") rfl))
    · exact (He.noat_ok (c.fact 114 (f := .noat "Part" "rank") rfl))
    · exact (He.noat_ok (c.fact 115 (f := .noat "Part" "many") rfl))
    · exact (He.noat_ok (c.fact 116 (f := .noat "Part" "number") rfl)))
  have nT : ∀ f ∈ (["_top", "_many_made", "p", "facts", "many", "number"] : List Str), NoAttr K (He.ga K "Tree") f := (fun f hf => by
    simp only [List.mem_cons, List.not_mem_nil, or_false] at hf
    rcases hf with rfl | rfl | rfl | rfl | rfl | rfl
    · exact (He.noat_ok (c.fact 121 (f := .noat "Tree" "_top") rfl))
    · exact (He.noat_ok (c.fact 122 (f := .noat "Tree" "_many_made") rfl))
    · exact (He.noat_ok (c.fact 123 (f := .noat "Tree" "p") rfl))
    · exact (He.noat_ok (c.fact 124 (f := .noat "Tree" "facts") rfl))
    · exact (He.noat_ok (c.fact 125 (f := .noat "Tree" "many") rfl))
    · exact (He.noat_ok (c.fact 126 (f := .noat "Tree" "number") rfl)))
  have eInt : Df P w K mg base "is_integer" 1 ["thing"] (spA K intD) := ⟨_, _, (He.glo_ok X G (c.fact 0 (f := .glo "is_integer") rfl)), FdInteger.kp, FdInteger.bindsN (fun _ _ _ _ _ _ us hl => match us, hl with | [_], _ => rfl), ok_integer FdInteger M⟩
  have eWord : Df P w K mg base "is_word" 1 ["thing"] (spA K wordD) := ⟨_, _, (He.glo_ok X G (c.fact 1 (f := .glo "is_word") rfl)), FdWord.kp, FdWord.bindsN (fun _ _ _ _ _ _ us hl => match us, hl with | [_], _ => rfl), ok_word FdWord M⟩
  have eWorth : Df P w K mg base "is_free_worth" 2 ["thing"] (spA K worthD) := ⟨_, _, (He.glo_ok X G (c.fact 2 (f := .glo "is_free_worth") rfl)), FdWorth.kp, FdWorth.bindsN (fun _ _ _ _ _ _ us hl => match us, hl with | [_], _ => rfl), ok_worth FdWorth eInt eWord⟩
  have eName : Df P w K mg base "is_name" 1 ["thing"] (spA K nameD) := ⟨_, _, (He.glo_ok X G (c.fact 3 (f := .glo "is_name") rfl)), FdName.kp, FdName.bindsN (fun _ _ _ _ _ _ us hl => match us, hl with | [_], _ => rfl), ok_name FdName M⟩
  have eTup : Df P w K mg base "is_tuple_of" 1 ["thing", "least", "most"] (spTupOf K) := ⟨_, _, (He.glo_ok X G (c.fact 4 (f := .glo "is_tuple_of") rfl)), FdTupleOf.kp, FdTupleOf.bindsN (fun _ _ _ _ _ _ us hl => match us, hl with | [_, _, _], _ => rfl), ok_tupleOf FdTupleOf M⟩
  have eRow : Df P w K mg base "is_free_row" 3 ["thing"] (spA K rowD) := ⟨_, _, (He.glo_ok X G (c.fact 5 (f := .glo "is_free_row") rfl)), FdRow.kp, FdRow.bindsN (fun _ _ _ _ _ _ us hl => match us, hl with | [_], _ => rfl), ok_row FdRow M eTup eWorth⟩
  have ePrime : Df P w K mg base "is_prime" 2 ["thing"] (spA K primeD) := ⟨_, _, (He.glo_ok X G (c.fact 10 (f := .glo "is_prime") rfl)), FdPrime.kp, FdPrime.bindsN (fun _ _ _ _ _ _ us hl => match us, hl with | [_], _ => rfl), ok_prime FdPrime M eInt⟩
  have eText : Df P w K mg base "is_text" 1 ["thing"] (spA K textD) := ⟨_, _, (He.glo_ok X G (c.fact 12 (f := .glo "is_text") rfl)), FdText.kp, FdText.bindsN (fun _ _ _ _ _ _ us hl => match us, hl with | [_], _ => rfl), ok_text FdText M⟩
  have eFact : Df P w K mg base "is_fact" 4 ["thing"] (spA K factD) := ⟨_, _, (He.glo_ok X G (c.fact 14 (f := .glo "is_fact") rfl)), FdFact.kp, FdFact.bindsN (fun _ _ _ _ _ _ us hl => match us, hl with | [_], _ => rfl), ok_fact FdFact eTup eName eText eRow⟩
  have eWK : Df P w K mg base "worth_key" 1 ["worth"] (spK K (fun _ => True) wkD) := ⟨_, _, (He.glo_ok X G (c.fact 7 (f := .glo "worth_key") rfl)), FdWKey.kp, FdWKey.bindsN (fun _ _ _ _ _ _ us hl => match us, hl with | [_], _ => rfl), ok_wkey FdWKey M⟩
  have eRK : Df P w K mg base "row_key" 2 ["row"] (spK K RowK rkD) := ⟨_, _, (He.glo_ok X G (c.fact 8 (f := .glo "row_key") rfl)), FdRKey.kp, FdRKey.bindsN (fun _ _ _ _ _ _ us hl => match us, hl with | [_], _ => rfl), ok_rkey FdRKey M eWK⟩
  have eFK : Df P w K mg base "fact_key" 3 ["fact"] (spK K FactK fkD) := ⟨_, _, (He.glo_ok X G (c.fact 9 (f := .glo "fact_key") rfl)), FdFKey.kp, FdFKey.bindsN (fun _ _ _ _ _ _ us hl => match us, hl with | [_], _ => rfl), ok_fkey FdFKey eRK⟩
  have eRis : Df P w K mg base "is_rising" 1 ["keys"] (spRis K) := ⟨_, _, (He.glo_ok X G (c.fact 6 (f := .glo "is_rising") rfl)), FdRising.kp, FdRising.bindsN (fun _ _ _ _ _ _ us hl => match us, hl with | [_], _ => rfl), ok_rising FdRising M M2⟩
  have eCkF : Df P w K mg base "check_facts" 5 ["thing"] (spCkF K) := ⟨_, _, (He.glo_ok X G (c.fact 20 (f := .glo "check_facts") rfl)), FdCkF.kp, FdCkF.bindsN (fun _ _ _ _ _ _ us hl => match us, hl with | [_], _ => rfl), ok_ckf FdCkF M eFact eFK eRis⟩
  have eCkP : Df P w K mg base "check_prime" 3 ["thing"] (spCkP K) := ⟨_, _, (He.glo_ok X G (c.fact 11 (f := .glo "check_prime") rfl)), FdCkP.kp, FdCkP.bindsN (fun _ _ _ _ _ _ us hl => match us, hl with | [_], _ => rfl), ok_ckp FdCkP ePrime⟩
  have eMix : Df P w K mg base "mixed" 1 ["p", "text"] spMix := ⟨_, _, (He.glo_ok X G (c.fact 13 (f := .glo "mixed") rfl)), FdMixed.kp, FdMixed.bindsN (fun _ _ _ _ _ _ us hl => match us, hl with | [_, _], _ => rfl), ok_mixed FdMixed M⟩
  have eWT : Df P w K mg base "worth_text" 1 ["worth"] (spWorthText K) := ⟨_, _, (He.glo_ok X G (c.fact 15 (f := .glo "worth_text") rfl)), FdWorthText.kp, FdWorthText.bindsN (fun _ _ _ _ _ _ us hl => match us, hl with | [_], _ => rfl), ok_worthText FdWorthText M⟩
  have eTO : Df P w K mg base "text_of" 2 ["fact"] (spText K) := ⟨_, _, (He.glo_ok X G (c.fact 16 (f := .glo "text_of") rfl)), FdTextOf.kp, FdTextOf.bindsN (fun _ _ _ _ _ _ us hl => match us, hl with | [_], _ => rfl), ok_textOf FdTextOf M eWT⟩
  have eNT : Df P w K mg base "numbers_text" 1 ["numbers"] (spNText K) := ⟨_, _, (He.glo_ok X G (c.fact 17 (f := .glo "numbers_text") rfl)), FdNText.kp, FdNText.bindsN (fun _ _ _ _ _ _ us hl => match us, hl with | [_], _ => rfl), ok_ntext FdNText M⟩
  have eRank : Df P w K mg base "rank_of" 1 ["number"] spRank := ⟨_, _, (He.glo_ok X G (c.fact 18 (f := .glo "rank_of") rfl)), FdRank.kp, FdRank.bindsN (fun _ _ _ _ _ _ us hl => match us, hl with | [_], _ => rfl), ok_rank FdRank M2⟩
  have ePT : ∀ p : Int, Df P w K mg base "part_text" 2 ["part"] (spPText (He.ga K "Part") p K) := fun p => ⟨_, _, (He.glo_ok X G (c.fact 19 (f := .glo "part_text") rfl)), FdPText.kp, FdPText.bindsN (fun _ _ _ _ _ _ us hl => match us, hl with | [_], _ => rfl), ok_ptext FdPText M2 hU eNT⟩
  have PM : ∀ p : Int, PMk P w K mg base (He.ga K "Part") p _ _ := fun p => ⟨(He.mkr_ok (c.fact 107 (f := .mkr "Part") rfl)), ok_pinit FmPInit M M2 hU eRank eMix (ePT p), (He.glo_ok X G (c.fact 72 (f := .glo "Part") rfl)), (FmPInit.bindsN (fun _ _ _ _ _ _ us hl => match us, hl with | [_, _, _, _], _ => rfl))⟩
  have MP : ∀ p : Int, MPart P w K mg base (He.ga K "Part") (He.ga K "Reckoner") p _ _ := fun p => ⟨(He.meth_ok (c.fact 129 (f := .meth "Reckoner" "part") rfl)), ok_rpart FmRPart (PM p), (FmRPart.bindsN (fun _ _ _ _ _ _ us hl => match us, hl with | [_, _, _], _ => rfl))⟩
  have MI : MItem P w K mg base (He.ga K "Reckoner") _ _ := ⟨(He.meth_ok (c.fact 128 (f := .meth "Reckoner" "item") rfl)), fun p => ok_item FmItem eMix eTO, (FmItem.bindsN (fun _ _ _ _ _ _ us hl => match us, hl with | [_, _], _ => rfl))⟩
  have MT : MTree P w K mg base (He.ga K "Part") (He.ga K "Reckoner") _ _ := ⟨(He.meth_ok (c.fact 130 (f := .meth "Reckoner" "tree") rfl)), fun p k p1 p2 => ok_tree FmTree (He.meth_ok (c.fact 130 (f := .meth "Reckoner" "tree") rfl)) (FmTree.bindsN (fun _ _ _ _ _ _ us hl => match us, hl with | [_, _], _ => rfl)) (MP p) M M2 eRank hCR (He.noat_ok (c.fact 117 (f := .noat "Reckoner" "made") rfl)) (He.noat_ok (c.fact 118 (f := .noat "Reckoner" "_p") rfl)) hC nP p1 p2 k, (FmTree.bindsN (fun _ _ _ _ _ _ us hl => match us, hl with | [_, _], _ => rfl))⟩
  have RM : RMk P w K mg base (He.ga K "Reckoner") _ _ := ⟨(He.mkr_ok (c.fact 108 (f := .mkr "Reckoner") rfl)), ok_rinit FmRInit, (He.glo_ok X G (c.fact 73 (f := .glo "Reckoner") rfl)), (FmRInit.bindsN (fun _ _ _ _ _ _ us hl => match us, hl with | [_, _], _ => rfl))⟩
  have TM : TMk P w K mg base (He.ga K "Part") (He.ga K "Tree") _ _ := ⟨(He.mkr_ok (c.fact 109 (f := .mkr "Tree") rfl)), ok_tinit FmTInit M eCkP eCkF RM MI MT hCR (He.noat_ok (c.fact 117 (f := .noat "Reckoner" "made") rfl)) (He.noat_ok (c.fact 118 (f := .noat "Reckoner" "_p") rfl)) hC (He.noat_ok (c.fact 116 (f := .noat "Part" "number") rfl)) (He.noat_ok (c.fact 115 (f := .noat "Part" "many") rfl)) hCT nT, (He.glo_ok X G (c.fact 74 (f := .glo "Tree") rfl)), (FmTInit.bindsN (fun _ _ _ _ _ _ us hl => match us, hl with | [_, _, _], _ => rfl))⟩
  have CM : CuMk P w K mg base _ _ := ⟨(He.mkr_ok (c.fact 110 (f := .mkr "Cut") rfl)), ok_cinit FmCInit, (He.glo_ok X G (c.fact 75 (f := .glo "Cut") rfl)), (FmCInit.bindsN (fun _ _ _ _ _ _ us hl => match us, hl with | [_, _, _], _ => rfl))⟩
  have eBound : Df P w K mg base "is_bound" 3 ["thing"] (spBound K) := ⟨_, _, (He.glo_ok X G (c.fact 22 (f := .glo "is_bound") rfl)), FdBound.kp, FdBound.bindsN (fun _ _ _ _ _ _ us hl => match us, hl with | [_], _ => rfl), ok_bound FdBound M eTup eWorth⟩
  have eStr : Df P w K mg base "is_stretch" 4 ["thing"] (spStr K) := ⟨_, _, (He.glo_ok X G (c.fact 21 (f := .glo "is_stretch") rfl)), FdStretch.kp, FdStretch.bindsN (fun _ _ _ _ _ _ us hl => match us, hl with | [_], _ => rfl), ok_stretch FdStretch eTup eName eBound⟩
  have eCkS : Df P w K mg base "check_stretches" 5 ["thing"] (spCkS K) := ⟨_, _, (He.glo_ok X G (c.fact 23 (f := .glo "check_stretches") rfl)), FdCkS.kp, FdCkS.bindsN (fun _ _ _ _ _ _ us hl => match us, hl with | [_], _ => rfl), ok_cks FdCkS M eStr⟩
  have eRB : Df P w K mg base "is_row_below" 3 ["stretch", "row"] (spRB K fun t ws => loB t.lo ws) := ⟨_, _, (He.glo_ok X G (c.fact 24 (f := .glo "is_row_below") rfl)), FdRB.kp, FdRB.bindsN (fun _ _ _ _ _ _ us hl => match us, hl with | [_, _], _ => rfl), ok_rb FdRB M eRK⟩
  have eRA : Df P w K mg base "is_row_above" 3 ["stretch", "row"] (spRB K fun t ws => hiB t.hi ws) := ⟨_, _, (He.glo_ok X G (c.fact 25 (f := .glo "is_row_above") rfl)), FdRA.kp, FdRA.bindsN (fun _ _ _ _ _ _ us hl => match us, hl with | [_, _], _ => rfl), ok_ra FdRA M eRK⟩
  have eIn : Df P w K mg base "is_in" 4 ["stretch", "fact"] (spSF K fun n => decide (n = 0)) := ⟨_, _, (He.glo_ok X G (c.fact 26 (f := .glo "is_in") rfl)), FdIn.kp, FdIn.bindsN (fun _ _ _ _ _ _ us hl => match us, hl with | [_, _], _ => rfl), ok_in FdIn eRB eRA⟩
  have eBel : Df P w K mg base "is_below" 4 ["stretch", "fact"] (spSF K fun n => decide (n < 0)) := ⟨_, _, (He.glo_ok X G (c.fact 27 (f := .glo "is_below") rfl)), FdBelow.kp, FdBelow.bindsN (fun _ _ _ _ _ _ us hl => match us, hl with | [_, _], _ => rfl), ok_below FdBelow eRB⟩
  have eAbo : Df P w K mg base "is_above" 5 ["stretch", "fact"] (spSF K fun n => decide (0 < n)) := ⟨_, _, (He.glo_ok X G (c.fact 28 (f := .glo "is_above") rfl)), FdAbove.kp, FdAbove.bindsN (fun _ _ _ _ _ _ us hl => match us, hl with | [_, _], _ => rfl), ok_above FdAbove eIn eBel⟩
  have eShT : Df P w K mg base "is_shut_to" 6 ["stretch", "ahead", "behind"] (spShutTo K) := ⟨_, _, (He.glo_ok X G (c.fact 30 (f := .glo "is_shut_to") rfl)), FdShutTo.kp, FdShutTo.bindsN (fun _ _ _ _ _ _ us hl => match us, hl with | [_, _, _], _ => rfl), ok_shutto FdShutTo eBel eAbo⟩
  have eShut : Df P w K mg base "is_shut" 7 ["stretches", "ahead", "behind"] (spShut K) := ⟨_, _, (He.glo_ok X G (c.fact 29 (f := .glo "is_shut") rfl)), FdShut.kp, FdShut.bindsN (fun _ _ _ _ _ _ us hl => match us, hl with | [_, _, _], _ => rfl), ok_shut FdShut M eShT⟩
  have PL : MPlaced P w K mg base (He.ga K "Part") _ _ := ⟨(He.meth_ok (c.fact 127 (f := .meth "Part" "placed") rfl)), ok_placed FmPlaced M M2 hC (He.noat_ok (c.fact 111 (f := .noat "Part" "children") rfl)) (He.noat_ok (c.fact 112 (f := .noat "Part" "own") rfl)), (FmPlaced.bindsN (fun _ _ _ _ _ _ us hl => match us, hl with | [_, _, _], _ => rfl))⟩
  have eShow : ∀ p : Int, Df P w K mg base "showing_of" 15 ["part", "ahead", "behind", "stretches"] (spShow (He.ga K "Part") p K 7) := fun p => ⟨_, _, (He.glo_ok X G (c.fact 32 (f := .glo "showing_of") rfl)), FdShow.kp, FdShow.bindsN (fun _ _ _ _ _ _ us hl => match us, hl with | [_, _, _, _], _ => rfl), ok_show FdShow (He.glo_ok X G (c.fact 32 (f := .glo "showing_of") rfl)) FdShow.kp (FdShow.bindsN (fun _ _ _ _ _ _ us hl => match us, hl with | [_, _, _, _], _ => rfl)) M PL eShut hC (He.noat_ok (c.fact 111 (f := .noat "Part" "children") rfl)) (He.noat_ok (c.fact 112 (f := .noat "Part" "own") rfl)) nu nM hU 7⟩
  have eShown : Df P w K mg base "shown" 16 ["tree", "stretches"] (spShown (He.ga K "Part") (He.ga K "Tree") K) := ⟨_, _, (He.glo_ok X G (c.fact 31 (f := .glo "shown") rfl)), FdShown.kp, FdShown.bindsN (fun _ _ _ _ _ _ us hl => match us, hl with | [_, _], _ => rfl), ok_shown FdShown eCkS eShow hCT nT⟩
  have eNb : Df P w K mg base "is_number" 2 ["thing"] spNumb := ⟨_, _, (He.glo_ok X G (c.fact 51 (f := .glo "is_number") rfl)), FdNumber.kp, FdNumber.bindsN (fun _ _ _ _ _ _ us hl => match us, hl with | [_], _ => rfl), ok_number FdNumber eInt⟩
  have eAF : Df P w K mg base "are_facts" 5 ["thing"] (spAreF K) := ⟨_, _, (He.glo_ok X G (c.fact 54 (f := .glo "are_facts") rfl)), FdAreF.kp, FdAreF.bindsN (fun _ _ _ _ _ _ us hl => match us, hl with | [_], _ => rfl), ok_aref FdAreF M eFact⟩
  have eIC : Df P w K mg base "is_cut" 3 ["p", "thing"] (spIsCut K) := ⟨_, _, (He.glo_ok X G (c.fact 53 (f := .glo "is_cut") rfl)), FdIsCut.kp, FdIsCut.bindsN (fun _ _ _ _ _ _ us hl => match us, hl with | [_, _], _ => rfl), ok_iscut FdIsCut eTup eNb⟩
  have eIS : Df P w K mg base "is_showing" 12 ["p", "thing"] (spIsShow K 7) := ⟨_, _, (He.glo_ok X G (c.fact 52 (f := .glo "is_showing") rfl)), FdIsShow.kp, FdIsShow.bindsN (fun _ _ _ _ _ _ us hl => match us, hl with | [_, _], _ => rfl), ok_isshow FdIsShow (He.glo_ok X G (c.fact 52 (f := .glo "is_showing") rfl)) FdIsShow.kp (FdIsShow.bindsN (fun _ _ _ _ _ _ us hl => match us, hl with | [_, _], _ => rfl)) M eTup eAF eIC 7⟩
  have eFI : Df P w K mg base "facts_in" 7 ["showing"] (spFI K 7) := ⟨_, _, (He.glo_ok X G (c.fact 55 (f := .glo "facts_in") rfl)), FdFactsIn.kp, FdFactsIn.bindsN (fun _ _ _ _ _ _ us hl => match us, hl with | [_], _ => rfl), ok_fi FdFactsIn (He.glo_ok X G (c.fact 55 (f := .glo "facts_in") rfl)) FdFactsIn.kp (FdFactsIn.bindsN (fun _ _ _ _ _ _ us hl => match us, hl with | [_], _ => rfl)) M M2 7⟩
  have ePI : ∀ p : Int, Df P w K mg base "part_in" 12 ["p", "showing"] (spPartIn (He.ga K "Part") p K 7) := fun p => ⟨_, _, (He.glo_ok X G (c.fact 57 (f := .glo "part_in") rfl)), FdPartIn.kp, FdPartIn.bindsN (fun _ _ _ _ _ _ us hl => match us, hl with | [_, _], _ => rfl), ok_partin FdPartIn (He.glo_ok X G (c.fact 57 (f := .glo "part_in") rfl)) FdPartIn.kp (FdPartIn.bindsN (fun _ _ _ _ _ _ us hl => match us, hl with | [_, _], _ => rfl)) M M2 (PM p) CM eRank eMix eTO hC nP hU Z 7⟩
  have eRP : Df P w K mg base "read_part" 13 ["p", "thing"] (spReadPart (He.ga K "Part") K) := ⟨_, _, (He.glo_ok X G (c.fact 56 (f := .glo "read_part") rfl)), FdReadPart.kp, FdReadPart.bindsN (fun _ _ _ _ _ _ us hl => match us, hl with | [_, _], _ => rfl), ok_readpart FdReadPart M eIS eRis eFK eFI ePI⟩
  have eRO : Df P w K mg base "root_of" 14 ["p", "showing"] (spRootOf (He.ga K "Part") K) := ⟨_, _, (He.glo_ok X G (c.fact 58 (f := .glo "root_of") rfl)), FdRootOf.kp, FdRootOf.bindsN (fun _ _ _ _ _ _ us hl => match us, hl with | [_, _], _ => rfl), ok_rootof FdRootOf eCkP eRP hC nu nM⟩
  have eCR : Df P w K mg base "check_root" 3 ["thing"] (spCkRoot K) := ⟨_, _, (He.glo_ok X G (c.fact 59 (f := .glo "check_root") rfl)), FdCkRoot.kp, FdCkRoot.bindsN (fun _ _ _ _ _ _ us hl => match us, hl with | [_], _ => rfl), ok_ckroot FdCkRoot eTup eNb⟩
  have eEn : Df P w K mg base "is_enough" 15 ["part", "ahead", "behind", "stretches"] (spEnough (He.ga K "Part") K 7) := ⟨_, _, (He.glo_ok X G (c.fact 61 (f := .glo "is_enough") rfl)), FdEnough.kp, FdEnough.bindsN (fun _ _ _ _ _ _ us hl => match us, hl with | [_, _, _, _], _ => rfl), ok_enough FdEnough (He.glo_ok X G (c.fact 61 (f := .glo "is_enough") rfl)) FdEnough.kp (FdEnough.bindsN (fun _ _ _ _ _ _ us hl => match us, hl with | [_, _, _, _], _ => rfl)) M (He.glo_ok X G (c.fact 75 (f := .glo "Cut") rfl)) PL eShut hC hU Z 7⟩
  have eRd : Df P w K mg base "read" 16 ["p", "root", "showing", "stretches"] (spRead (He.ga K "Part") K) := ⟨_, _, (He.glo_ok X G (c.fact 60 (f := .glo "read") rfl)), FdRead.kp, FdRead.bindsN (fun _ _ _ _ _ _ us hl => match us, hl with | [_, _, _, _], _ => rfl), ok_read FdRead M (He.free_ok X G (c.fact 94 (f := .free "any") rfl)) eCkP eCR eRP eCkS eEn eFI eIn hC nu nM⟩
  have eHand : Df P w K mg base "_law_hand" 1 ["script"] (spHand K) := ⟨_, _, (He.glo_ok X G (c.fact 33 (f := .glo "_law_hand") rfl)), FdHand.kp, FdHand.bindsN (fun _ _ _ _ _ _ us hl => match us, hl with | [_], _ => rfl), ok_hand FdHand (He.free_ok X G (c.fact 76 (f := .free "abs") rfl)) M.int M.len⟩
  have eDraw : Df P w K mg base "_law_draw" 1 ["hand", "many"] spDraw := ⟨_, _, (He.glo_ok X G (c.fact 34 (f := .glo "_law_draw") rfl)), FdDraw.kp, FdDraw.bindsN (fun _ _ _ _ _ _ us hl => match us, hl with | [_, _], _ => rfl), ok_draw FdDraw M.int M.len⟩
  have eSome : Df P w K mg base "_law_some" 2 ["hand", "things"] (spSome K) := ⟨_, _, (He.glo_ok X G (c.fact 35 (f := .glo "_law_some") rfl)), FdSome.kp, FdSome.bindsN (fun _ _ _ _ _ _ us hl => match us, hl with | [_, _], _ => rfl), ok_some FdSome eDraw M.len⟩
  have eSomeT : Df P w K mg base "_law_some" 2 ["hand", "things"] (spSomeT K) := ⟨_, _, (He.glo_ok X G (c.fact 35 (f := .glo "_law_some") rfl)), FdSome.kp, FdSome.bindsN (fun _ _ _ _ _ _ us hl => match us, hl with | [_, _], _ => rfl), ok_someT FdSome eDraw M.len⟩
  have eLK : Df P w K mg base "_law_key" 1 ["row"] (spK K RowW lrD) := ⟨_, _, (He.glo_ok X G (c.fact 36 (f := .glo "_law_key") rfl)), FdLKey.kp, FdLKey.bindsN (fun _ _ _ _ _ _ us hl => match us, hl with | [_], _ => rfl), ok_lkey FdLKey M⟩
  have eSoL : Df P w K mg base "_law_sorted" 2 ["facts"] (spSortL K) := ⟨_, _, (He.glo_ok X G (c.fact 37 (f := .glo "_law_sorted") rfl)), FdSorted.kp, FdSorted.bindsN (fun _ _ _ _ _ _ us hl => match us, hl with | [_], _ => rfl), ok_sortL FdSorted M M2 eLK⟩
  have eLMix : Df P w K mg base "_law_mix" 1 ["p", "text"] spMix := ⟨_, _, (He.glo_ok X G (c.fact 38 (f := .glo "_law_mix") rfl)), FdLMix.kp, FdLMix.bindsN (fun _ _ _ _ _ _ us hl => match us, hl with | [_, _], _ => rfl), ok_lmix FdLMix M⟩
  have eLWT : Df P w K mg base "_law_worth_text" 1 ["worth"] (spWorthText K) := ⟨_, _, (He.glo_ok X G (c.fact 39 (f := .glo "_law_worth_text") rfl)), FdLWorthText.kp, FdLWorthText.bindsN (fun _ _ _ _ _ _ us hl => match us, hl with | [_], _ => rfl), ok_lworthText FdLWorthText M⟩
  have eLFT : Df P w K mg base "_law_fact_text" 2 ["fact"] (spText K) := ⟨_, _, (He.glo_ok X G (c.fact 40 (f := .glo "_law_fact_text") rfl)), FdLFactText.kp, FdLFactText.bindsN (fun _ _ _ _ _ _ us hl => match us, hl with | [_], _ => rfl), ok_lfactText FdLFactText M eLWT⟩
  have eLNum : Df P w K mg base "_law_number" 3 ["p", "fact"] (spNum K) := ⟨_, _, (He.glo_ok X G (c.fact 41 (f := .glo "_law_number") rfl)), FdLNumber.kp, FdLNumber.bindsN (fun _ _ _ _ _ _ us hl => match us, hl with | [_, _], _ => rfl), ok_lnumber FdLNumber eLMix eLFT⟩
  have eLRank : Df P w K mg base "_law_rank" 4 ["p", "fact"] (spLRank K) := ⟨_, _, (He.glo_ok X G (c.fact 42 (f := .glo "_law_rank") rfl)), FdLRank.kp, FdLRank.bindsN (fun _ _ _ _ _ _ us hl => match us, hl with | [_, _], _ => rfl), ok_lrank FdLRank M eLNum⟩
  have eLTree : Df P w K mg base "_law_tree" 12 ["p", "facts"] (spLTree K 7) := ⟨_, _, (He.glo_ok X G (c.fact 43 (f := .glo "_law_tree") rfl)), FdLTree.kp, FdLTree.bindsN (fun _ _ _ _ _ _ us hl => match us, hl with | [_, _], _ => rfl), ok_ltree FdLTree (He.glo_ok X G (c.fact 43 (f := .glo "_law_tree") rfl)) FdLTree.kp (FdLTree.bindsN (fun _ _ _ _ _ _ us hl => match us, hl with | [_, _], _ => rfl)) M M2 eLRank 7⟩
  have eLText : Df P w K mg base "_law_list_text" 1 ["numbers"] (spNText K) := ⟨_, _, (He.glo_ok X G (c.fact 44 (f := .glo "_law_list_text") rfl)), FdLText.kp, FdLText.bindsN (fun _ _ _ _ _ _ us hl => match us, hl with | [_], _ => rfl), ok_ltext FdLText M⟩
  have eLPair : Df P w K mg base "_law_pair" 12 ["p", "tree"] (spLPair K 7) := ⟨_, _, (He.glo_ok X G (c.fact 45 (f := .glo "_law_pair") rfl)), FdLPair.kp, FdLPair.bindsN (fun _ _ _ _ _ _ us hl => match us, hl with | [_, _], _ => rfl), ok_lpair FdLPair (He.glo_ok X G (c.fact 45 (f := .glo "_law_pair") rfl)) FdLPair.kp (FdLPair.bindsN (fun _ _ _ _ _ _ us hl => match us, hl with | [_, _], _ => rfl)) M M2 eLMix eLText eLNum 7⟩
  have ePrimeD : Df P w K mg base "_law_prime" 3 ["hand"] (spY K RP) := ⟨_, _, (He.glo_ok X G (c.fact 46 (f := .glo "_law_prime") rfl)), FdPrimeD.kp, FdPrimeD.bindsN (fun _ _ _ _ _ _ us hl => match us, hl with | [_], _ => rfl), ok_primeD FdPrimeD M eSome⟩
  have eWorthD : Df P w K mg base "_law_worth" 3 ["hand"] (spY K RW) := ⟨_, _, (He.glo_ok X G (c.fact 47 (f := .glo "_law_worth") rfl)), FdWorthD.kp, FdWorthD.bindsN (fun _ _ _ _ _ _ us hl => match us, hl with | [_], _ => rfl), ok_worthD FdWorthD M eDraw eSome⟩
  have eFactD : Df P w K mg base "_law_fact" 4 ["hand"] (spY K RF) := ⟨_, _, (He.glo_ok X G (c.fact 48 (f := .glo "_law_fact") rfl)), FdFactD.kp, FdFactD.bindsN (fun _ _ _ _ _ _ us hl => match us, hl with | [_], _ => rfl), ok_factD FdFactD M eDraw eSome eWorthD⟩
  have eLFs : Df P w K mg base "_law_facts" 5 ["hand", "most"] (spLFs K) := ⟨_, _, (He.glo_ok X G (c.fact 49 (f := .glo "_law_facts") rfl)), FdLFs.kp, FdLFs.bindsN (fun _ _ _ _ _ _ us hl => match us, hl with | [_, _], _ => rfl), ok_lfs FdLFs M eDraw eFactD eSoL⟩
  have eIs : Df P w K mg base "_law_is" 17 ["told", "due"] (spIs K 17) := ⟨_, _, (He.glo_ok X G (c.fact 50 (f := .glo "_law_is") rfl)), FdIs.kp, FdIs.bindsN (fun _ _ _ _ _ _ us hl => match us, hl with | [_, _], _ => rfl), ok_is FdIs M M2 (He.glo_ok X G (c.fact 50 (f := .glo "_law_is") rfl)) FdIs.kp (FdIs.bindsN (fun _ _ _ _ _ _ us hl => match us, hl with | [_, _], _ => rfl)) 17⟩
  have eLSd : Df P w K mg base "_law_side" 2 ["fact", "stretch"] (spSide K) := ⟨_, _, (He.glo_ok X G (c.fact 62 (f := .glo "_law_side") rfl)), FdLSide.kp, FdLSide.bindsN (fun _ _ _ _ _ _ us hl => match us, hl with | [_, _], _ => rfl), ok_lside FdLSide M eLK⟩
  have eLCl : Df P w K mg base "_law_is_closed" 3 ["place", "stretches"] (spClosed K) := ⟨_, _, (He.glo_ok X G (c.fact 63 (f := .glo "_law_is_closed") rfl)), FdLClosed.kp, FdLClosed.bindsN (fun _ _ _ _ _ _ us hl => match us, hl with | [_, _], _ => rfl), ok_lclosed FdLClosed M eLSd⟩
  have eLSh : Df P w K mg base "_law_shown" 20 ["p", "tree", "place", "stretches", "is_top"] (spLShown K 7) := ⟨_, _, (He.glo_ok X G (c.fact 64 (f := .glo "_law_shown") rfl)), FdLShown.kp, FdLShown.bindsN (fun _ _ _ _ _ _ us hl => match us, hl with | [_, _, _, _, _], _ => rfl), ok_lshown FdLShown (He.glo_ok X G (c.fact 64 (f := .glo "_law_shown") rfl)) FdLShown.kp (FdLShown.bindsN (fun _ _ _ _ _ _ us hl => match us, hl with | [_, _, _, _, _], _ => rfl)) M M2 eLCl eLPair 7⟩
  have eBd : Df P w K mg base "_law_bound" 5 ["hand", "facts"] (spLBound K) := ⟨_, _, (He.glo_ok X G (c.fact 65 (f := .glo "_law_bound") rfl)), FdLBound.kp, FdLBound.bindsN (fun _ _ _ _ _ _ us hl => match us, hl with | [_, _], _ => rfl), ok_lbound FdLBound M eDraw eSomeT eFactD⟩
  have eSt : Df P w K mg base "_law_stretch" 6 ["hand", "facts"] (spLStr K) := ⟨_, _, (He.glo_ok X G (c.fact 66 (f := .glo "_law_stretch") rfl)), FdLStr.kp, FdLStr.bindsN (fun _ _ _ _ _ _ us hl => match us, hl with | [_, _], _ => rfl), ok_lstr FdLStr M eDraw eSome eSomeT eBd⟩
  have eSts : Df P w K mg base "_law_stretches" 7 ["hand", "facts"] (spLStrs K) := ⟨_, _, (He.glo_ok X G (c.fact 67 (f := .glo "_law_stretches") rfl)), FdLStrs.kp, FdLStrs.bindsN (fun _ _ _ _ _ _ us hl => match us, hl with | [_, _], _ => rfl), ok_lstrs FdLStrs M eDraw eSt⟩
  have eHid : Df P w K mg base "_law_is_hidden" 11 ["showing", "place", "stretches"] (spHidden K 7) := ⟨_, _, (He.glo_ok X G (c.fact 68 (f := .glo "_law_is_hidden") rfl)), FdHidden.kp, FdHidden.bindsN (fun _ _ _ _ _ _ us hl => match us, hl with | [_, _, _], _ => rfl), ok_hidden FdHidden (He.glo_ok X G (c.fact 68 (f := .glo "_law_is_hidden") rfl)) FdHidden.kp (FdHidden.bindsN (fun _ _ _ _ _ _ us hl => match us, hl with | [_, _, _], _ => rfl)) M M2 (He.free_ok X G (c.fact 94 (f := .free "any") rfl)) eLCl 7⟩
  have eTold : Df P w K mg base "_law_told_facts" 7 ["showing"] (spLTold K 7) := ⟨_, _, (He.glo_ok X G (c.fact 69 (f := .glo "_law_told_facts") rfl)), FdLTold.kp, FdLTold.bindsN (fun _ _ _ _ _ _ us hl => match us, hl with | [_], _ => rfl), ok_ltold FdLTold (He.glo_ok X G (c.fact 69 (f := .glo "_law_told_facts") rfl)) FdLTold.kp (FdLTold.bindsN (fun _ _ _ _ _ _ us hl => match us, hl with | [_], _ => rfl)) M M2 7⟩
  have eDue : Df P w K mg base "_law_due" 12 ["showing", "stretches"] (spLDue K) := ⟨_, _, (He.glo_ok X G (c.fact 70 (f := .glo "_law_due") rfl)), FdLDue.kp, FdLDue.bindsN (fun _ _ _ _ _ _ us hl => match us, hl with | [_, _], _ => rfl), ok_ldue FdLDue M eHid eTold eLSd⟩
  have Dx : Dl P w K mg base (He.ga K "Part") (He.ga K "Tree") _ _ := { hand := eHand, some := eSome, prime := ePrimeD, facts := eLFs, TM := TM, tree := eLTree, pair := eLPair, lsts := eSts, lshown := eLSh, shown := eShown, is := eIs, rootof := eRO, read := eRd, due := eDue, side := eLSd, cT := hCT, no := nT }
  exact ok_law FdLaw M M2 Dx
end Sm
open PySem PySem.W PySem.Calls PyProof.Rows
theorem PySem.Challenge.cw_shownviews_k30_whole_showings_and_read_holds : PySem.Challenge.rw_shownviews_k30_whole_showings_and_read.Holds := by
  w_on; o_law
  refine HandSHeadRun.head_any (r := Sm.R) (q := view Sm.R.prog [100]) (H := Sm.hk) (ob := Sm.ob) (M := 20000) (loose := Sm.loose) (d := HandSHeadRun.topDef Sm.R.prog 100) (kwd := []) Sm.ob_eq
    (by kernel_rfl) (fun s => by kernel_rfl) Sm.run (by kernel_rfl) (by kernel_rfl) (by kernel_rfl) (by rfl) (by first | assumption | decide +kernel) (by decide +kernel) ⟨rfl, rfl, rfl, rfl, rfl, by decide +kernel⟩ ?hw ?hc
  case hw => w_witness2
  case hc =>
    refine L2.walk_ofE (l := PySem.Challenge.rw_shownviews_k30_whole_showings_and_read) (n := 63) (k := 26) (x := "script") (CX := L2.CX0) rfl (by decide) (by kernel_rfl) ⟨rfl, by decide, by decide⟩ ?F (fun _ _ _ _ h => h)
    intro w mg fa h Y G hmg0
    obtain ⟨K, KX, ck, c⟩ := Y
    have hmg : mg ("law" : PySem.Str) = some (.ref fa) := by
      have e : (HandSHeadRun.topDef Sm.R.prog 100).name = ("law" : PySem.Str) := by kernel_rfl
      rw [← e]
      exact hmg0
    obtain ⟨fd, hb, hF⟩ := Sm.facts (P := (PySem.Challenge.rw_shownviews_k30_whole_showings_and_read).prog) (w := w) KX G hmg ck c
    exact ⟨K, fd, Sm.spLaw K, KX, hb, fun H a ns hl _ hS => ⟨a, ns, rfl, hS, hl, fun _ => rfl⟩, hF⟩
