import PyProof.Rows.All
import Wide.All
import OpenK.AllK
import Wide.FinOn
import HandS.ForMost
import HandS.ForExc
import HandS.IsInst
import HandS.Evl
import HandS.Walk
import HandS.Deep
import HandS.HeadHook4
import HandS.Head2
import HandS.HeadEnd
import HandS.HeadWalk
import HandS.Wide
import HandS.CallLocal
import HandS.ExcCtx
import HandS.HotCalls
import HandS.SuiteRaise
import HandS.ExcInitHot
import HandS.ExcField
import HandS.Lambda
import HandS.TupAny
import HandS.Style
import HandS.Strs
import HandS.CallSlots
import HandS.Zip
import HandS.Comp
import HandS.DictComp
import PyProof.CompUse
import HandS.SortKw
import HandS.SortInts
import HandS.WordsDict
import PyProof.Rows.SortShellAny
import HandS.More
import HandS.Conv
import HandS.Flow
import HandS.Small
import HandS.StrMore
import HandS.StrSplit
import HandS.ExcIs
import HandS.Words
import HandS.ExcInit
import KE.SortKeyHeap
import HandS.NestedK
import HandS.ReplaceLit
import HandS.ReplaceList
import HandS.Text
import PyProof.DictUpdate
import PyProof.DictDisplay
import PySem.Challenge.RW_boundstone_k26_shards_made_from_content
set_option Elab.async false
set_option linter.all false
set_option maxRecDepth 100000
set_option maxHeartbeats 8000000
/-! Q0: what the head asks of a text -/
namespace Q
open PySem L2 Evl
abbrev Frag := PySem.W.Frag
/-- values: lists that nobody changes are values (lst; rol: the script); exc: a caught exception -/
inductive W where
  | non | bl (b : Bool) | int (i : Int) | str (x : Str) | tup (ws : List W) | lst (ws : List W) | rol (ws : List W) | ref (a : Addr) | fn (x : Str) | exc (a : Addr) (d : Option Addr) (c : Str) (fs : List (Str × W))
def noLst (K : Frag) : Bool := K.all fun q => match q.2.cls with
  | .type c => !decide (c = "list")
  | _ => true
def eqStrs : List Value → List Str → Bool
  | [], [] => true
  | .str x _ :: r, y :: s => decide (x = y) && eqStrs r s
  | _, _ => false
def tupB (K : Frag) (a : Addr) (ws : List Str) : Bool := match K.lookup a with
  | some ⟨.type c, _, .seq its _, _⟩ => decide (c = "tuple") && (decide (its.size ≤ 100) && eqStrs its.toList ws)
  | _ => false
/-- a written value, told as a W -/
def tvB (K : Frag) : W → Value → Bool
  | .int i, .int j _ => decide (i = j)
  | .str z, .str y _ => decide (z = y)
  | .fn f, .ref t => decide (t = He.ga K f)
  | .tup ws, .ref t => (match ws.mapM (fun w => match w with
    | W.str z => some z
    | _ => none) with
    | some zs => tupB K t zs
    | none => false)
  | _, _ => false
def tabVB (K : Frag) (x : Str) (kvs : List (Str × W)) : Bool := kvs.all fun p => match PySem.W.nsIn K (He.ga K x) p.1 with
  | some (some v) => tvB K p.2 v
  | _ => false
def inCls (s : Stmt) (j : Nat) : Stmt := match s with
  | .ClassDef _ _ _ b _ _ _ _ _ _ _ => b.getD j (.Pass ⟨0, 0, 0, 0⟩)
  | _ => .Pass ⟨0, 0, 0, 0⟩
end Q
namespace K26
open PySem PySem.Spec PyProof.Rows L2 Evl Q
def top (i : Nat) : Stmt := PySem.Challenge.pw_boundstone_k26_shards_made_from_content.main.body.getD i (.Pass ⟨0, 0, 0, 0⟩)
abbrev s__wall : Stmt := top 0
abbrev s_is_key : Stmt := top 11
abbrev s_is_bound : Stmt := top 12
abbrev s_is_range : Stmt := top 13
abbrev s_below : Stmt := top 14
abbrev s_contains : Stmt := top 15
abbrev s_is_printable : Stmt := top 18
abbrev s_is_integer : Stmt := top 19
abbrev s_kind_of : Stmt := top 23
abbrev s_is_value : Stmt := top 24
abbrev s__is_pair : Stmt := top 26
abbrev s_are_pairs : Stmt := top 25
abbrev s__is_key_alone : Stmt := top 27
abbrev s__is_put : Stmt := top 28
abbrev s__is_swap : Stmt := top 29
abbrev s__is_page : Stmt := top 30
abbrev s_is_operation : Stmt := top 32
abbrev s_place : Stmt := top 33
abbrev s_is_within : Stmt := top 34
abbrev s__get : Stmt := top 35
abbrev s__put : Stmt := top 36
abbrev s__drop : Stmt := top 37
abbrev s__swap : Stmt := top 38
abbrev s__page : Stmt := top 39
abbrev s_apply : Stmt := top 41
abbrev s__is_word_alone : Stmt := top 42
abbrev s__is_value_told : Stmt := top 43
abbrev s__is_page_told : Stmt := top 44
abbrev s_is_answer : Stmt := top 46
abbrev s_is_client : Stmt := top 48
abbrev s_is_pairs : Stmt := top 49
abbrev s_is_number : Stmt := top 52
abbrev s__is_row : Stmt := top 51
abbrev s_is_rows : Stmt := top 50
abbrev s_Sessions___init__ : Stmt := inCls (top 54) 0
abbrev s_Sessions_status : Stmt := inCls (top 54) 1
abbrev s_Sessions_answer : Stmt := inCls (top 54) 2
abbrev s_Sessions_remember : Stmt := inCls (top 54) 3
abbrev s_Sessions_rows : Stmt := inCls (top 54) 4
abbrev s_Sessions_merged : Stmt := inCls (top 54) 5
abbrev s_Sessions_clone : Stmt := inCls (top 54) 6
abbrev s_Shard___init__ : Stmt := inCls (top 56) 0
abbrev s_Shard_has : Stmt := inCls (top 56) 1
abbrev s_Shard_size : Stmt := inCls (top 56) 2
abbrev s_Shard_middle : Stmt := inCls (top 56) 3
abbrev s_Shard_status : Stmt := inCls (top 56) 4
abbrev s_Shard_answer : Stmt := inCls (top 56) 5
abbrev s_Shard_serve : Stmt := inCls (top 56) 6
abbrev s_Shard_split : Stmt := inCls (top 56) 7
abbrev s_Shard_join : Stmt := inCls (top 56) 8
abbrev s_Shard_content : Stmt := inCls (top 56) 9
abbrev s_Shard_clone : Stmt := inCls (top 56) 10
abbrev s_made : Stmt := top 57
abbrev s__law_cell : Stmt := top 59
abbrev s__law_rich : Stmt := top 60
abbrev s__law_word : Stmt := top 61
abbrev s__law_key : Stmt := top 62
abbrev s__law_bound : Stmt := top 63
abbrev s__law_value : Stmt := top 64
abbrev s__law_range : Stmt := top 65
abbrev s__law_operation : Stmt := top 66
abbrev s__law_filled : Stmt := top 67
abbrev s__law_spoilt : Stmt := top 68
abbrev s__law_is_bound : Stmt := top 69
abbrev s__law_rises : Stmt := top 70
abbrev s__law_right : Stmt := top 71
abbrev s__law_made : Stmt := top 72
abbrev s_law : Stmt := top 73
/-! ### the head: the top runs -/
def d__wall : He.DefD := ⟨("_wall", none), "_wall", "_wall", defArgs s__wall, defBody s__wall, defScope s__wall, [], []⟩
def d_is_key : He.DefD := ⟨("is_key", none), "is_key", "is_key", defArgs s_is_key, defBody s_is_key, defScope s_is_key, [], []⟩
def d_is_bound : He.DefD := ⟨("is_bound", none), "is_bound", "is_bound", defArgs s_is_bound, defBody s_is_bound, defScope s_is_bound, [], []⟩
def d_is_range : He.DefD := ⟨("is_range", none), "is_range", "is_range", defArgs s_is_range, defBody s_is_range, defScope s_is_range, [], []⟩
def d_below : He.DefD := ⟨("below", none), "below", "below", defArgs s_below, defBody s_below, defScope s_below, [], []⟩
def d_contains : He.DefD := ⟨("contains", none), "contains", "contains", defArgs s_contains, defBody s_contains, defScope s_contains, [], []⟩
def d_is_printable : He.DefD := ⟨("is_printable", none), "is_printable", "is_printable", defArgs s_is_printable, defBody s_is_printable, defScope s_is_printable, [], []⟩
def d_is_integer : He.DefD := ⟨("is_integer", none), "is_integer", "is_integer", defArgs s_is_integer, defBody s_is_integer, defScope s_is_integer, [], []⟩
def d_kind_of : He.DefD := ⟨("kind_of", none), "kind_of", "kind_of", defArgs s_kind_of, defBody s_kind_of, defScope s_kind_of, [], []⟩
def d_is_value : He.DefD := ⟨("is_value", none), "is_value", "is_value", defArgs s_is_value, defBody s_is_value, defScope s_is_value, [], []⟩
def d__is_pair : He.DefD := ⟨("_is_pair", none), "_is_pair", "_is_pair", defArgs s__is_pair, defBody s__is_pair, defScope s__is_pair, [], []⟩
def d_are_pairs : He.DefD := ⟨("are_pairs", none), "are_pairs", "are_pairs", defArgs s_are_pairs, defBody s_are_pairs, defScope s_are_pairs, [], []⟩
def d__is_key_alone : He.DefD := ⟨("_is_key_alone", none), "_is_key_alone", "_is_key_alone", defArgs s__is_key_alone, defBody s__is_key_alone, defScope s__is_key_alone, [], []⟩
def d__is_put : He.DefD := ⟨("_is_put", none), "_is_put", "_is_put", defArgs s__is_put, defBody s__is_put, defScope s__is_put, [], []⟩
def d__is_swap : He.DefD := ⟨("_is_swap", none), "_is_swap", "_is_swap", defArgs s__is_swap, defBody s__is_swap, defScope s__is_swap, [], []⟩
def d__is_page : He.DefD := ⟨("_is_page", none), "_is_page", "_is_page", defArgs s__is_page, defBody s__is_page, defScope s__is_page, [], []⟩
def d_is_operation : He.DefD := ⟨("is_operation", none), "is_operation", "is_operation", defArgs s_is_operation, defBody s_is_operation, defScope s_is_operation, [], []⟩
def d_place : He.DefD := ⟨("place", none), "place", "place", defArgs s_place, defBody s_place, defScope s_place, [], []⟩
def d_is_within : He.DefD := ⟨("is_within", none), "is_within", "is_within", defArgs s_is_within, defBody s_is_within, defScope s_is_within, [], []⟩
def d__get : He.DefD := ⟨("_get", none), "_get", "_get", defArgs s__get, defBody s__get, defScope s__get, [], []⟩
def d__put : He.DefD := ⟨("_put", none), "_put", "_put", defArgs s__put, defBody s__put, defScope s__put, [], []⟩
def d__drop : He.DefD := ⟨("_drop", none), "_drop", "_drop", defArgs s__drop, defBody s__drop, defScope s__drop, [], []⟩
def d__swap : He.DefD := ⟨("_swap", none), "_swap", "_swap", defArgs s__swap, defBody s__swap, defScope s__swap, [], []⟩
def d__page : He.DefD := ⟨("_page", none), "_page", "_page", defArgs s__page, defBody s__page, defScope s__page, [], []⟩
def d_apply : He.DefD := ⟨("apply", none), "apply", "apply", defArgs s_apply, defBody s_apply, defScope s_apply, [], []⟩
def d__is_word_alone : He.DefD := ⟨("_is_word_alone", none), "_is_word_alone", "_is_word_alone", defArgs s__is_word_alone, defBody s__is_word_alone, defScope s__is_word_alone, [], []⟩
def d__is_value_told : He.DefD := ⟨("_is_value_told", none), "_is_value_told", "_is_value_told", defArgs s__is_value_told, defBody s__is_value_told, defScope s__is_value_told, [], []⟩
def d__is_page_told : He.DefD := ⟨("_is_page_told", none), "_is_page_told", "_is_page_told", defArgs s__is_page_told, defBody s__is_page_told, defScope s__is_page_told, [], []⟩
def d_is_answer : He.DefD := ⟨("is_answer", none), "is_answer", "is_answer", defArgs s_is_answer, defBody s_is_answer, defScope s_is_answer, [], []⟩
def d_is_client : He.DefD := ⟨("is_client", none), "is_client", "is_client", defArgs s_is_client, defBody s_is_client, defScope s_is_client, [], []⟩
def d_is_pairs : He.DefD := ⟨("is_pairs", none), "is_pairs", "is_pairs", defArgs s_is_pairs, defBody s_is_pairs, defScope s_is_pairs, [], []⟩
def d_is_number : He.DefD := ⟨("is_number", none), "is_number", "is_number", defArgs s_is_number, defBody s_is_number, defScope s_is_number, [], []⟩
def d__is_row : He.DefD := ⟨("_is_row", none), "_is_row", "_is_row", defArgs s__is_row, defBody s__is_row, defScope s__is_row, [], []⟩
def d_is_rows : He.DefD := ⟨("is_rows", none), "is_rows", "is_rows", defArgs s_is_rows, defBody s_is_rows, defScope s_is_rows, [], []⟩
def d_made : He.DefD := ⟨("made", none), "made", "made", defArgs s_made, defBody s_made, defScope s_made, [], []⟩
def d__law_cell : He.DefD := ⟨("_law_cell", none), "_law_cell", "_law_cell", defArgs s__law_cell, defBody s__law_cell, defScope s__law_cell, [], []⟩
def d__law_rich : He.DefD := ⟨("_law_rich", none), "_law_rich", "_law_rich", defArgs s__law_rich, defBody s__law_rich, defScope s__law_rich, [], []⟩
def d__law_word : He.DefD := ⟨("_law_word", none), "_law_word", "_law_word", defArgs s__law_word, defBody s__law_word, defScope s__law_word, [], []⟩
def d__law_key : He.DefD := ⟨("_law_key", none), "_law_key", "_law_key", defArgs s__law_key, defBody s__law_key, defScope s__law_key, [], []⟩
def d__law_bound : He.DefD := ⟨("_law_bound", none), "_law_bound", "_law_bound", defArgs s__law_bound, defBody s__law_bound, defScope s__law_bound, [], []⟩
def d__law_value : He.DefD := ⟨("_law_value", none), "_law_value", "_law_value", defArgs s__law_value, defBody s__law_value, defScope s__law_value, [], []⟩
def d__law_range : He.DefD := ⟨("_law_range", none), "_law_range", "_law_range", defArgs s__law_range, defBody s__law_range, defScope s__law_range, [], []⟩
def d__law_operation : He.DefD := ⟨("_law_operation", none), "_law_operation", "_law_operation", defArgs s__law_operation, defBody s__law_operation, defScope s__law_operation, [], []⟩
def d__law_filled : He.DefD := ⟨("_law_filled", none), "_law_filled", "_law_filled", defArgs s__law_filled, defBody s__law_filled, defScope s__law_filled, [], []⟩
def d__law_spoilt : He.DefD := ⟨("_law_spoilt", none), "_law_spoilt", "_law_spoilt", defArgs s__law_spoilt, defBody s__law_spoilt, defScope s__law_spoilt, [], []⟩
def d__law_is_bound : He.DefD := ⟨("_law_is_bound", none), "_law_is_bound", "_law_is_bound", defArgs s__law_is_bound, defBody s__law_is_bound, defScope s__law_is_bound, [], []⟩
def d__law_rises : He.DefD := ⟨("_law_rises", none), "_law_rises", "_law_rises", defArgs s__law_rises, defBody s__law_rises, defScope s__law_rises, [], []⟩
def d__law_right : He.DefD := ⟨("_law_right", none), "_law_right", "_law_right", defArgs s__law_right, defBody s__law_right, defScope s__law_right, [], []⟩
def d__law_made : He.DefD := ⟨("_law_made", none), "_law_made", "_law_made", defArgs s__law_made, defBody s__law_made, defScope s__law_made, [], []⟩
def d_law : He.DefD := ⟨("law", none), "law", "law", defArgs s_law, defBody s_law, defScope s_law, [], []⟩
def d_Sessions___init__ : He.DefD := ⟨("Sessions", some "__init__"), "__init__", "Sessions.__init__", defArgs s_Sessions___init__, defBody s_Sessions___init__, defScope s_Sessions___init__, [], []⟩
def d_Sessions_status : He.DefD := ⟨("Sessions", some "status"), "status", "Sessions.status", defArgs s_Sessions_status, defBody s_Sessions_status, defScope s_Sessions_status, [], []⟩
def d_Sessions_answer : He.DefD := ⟨("Sessions", some "answer"), "answer", "Sessions.answer", defArgs s_Sessions_answer, defBody s_Sessions_answer, defScope s_Sessions_answer, [], []⟩
def d_Sessions_remember : He.DefD := ⟨("Sessions", some "remember"), "remember", "Sessions.remember", defArgs s_Sessions_remember, defBody s_Sessions_remember, defScope s_Sessions_remember, [], []⟩
def d_Sessions_rows : He.DefD := ⟨("Sessions", some "rows"), "rows", "Sessions.rows", defArgs s_Sessions_rows, defBody s_Sessions_rows, defScope s_Sessions_rows, [], []⟩
def d_Sessions_merged : He.DefD := ⟨("Sessions", some "merged"), "merged", "Sessions.merged", defArgs s_Sessions_merged, defBody s_Sessions_merged, defScope s_Sessions_merged, [], []⟩
def d_Sessions_clone : He.DefD := ⟨("Sessions", some "clone"), "clone", "Sessions.clone", defArgs s_Sessions_clone, defBody s_Sessions_clone, defScope s_Sessions_clone, [], []⟩
def d_Shard___init__ : He.DefD := ⟨("Shard", some "__init__"), "__init__", "Shard.__init__", defArgs s_Shard___init__, defBody s_Shard___init__, defScope s_Shard___init__, [], []⟩
def d_Shard_has : He.DefD := ⟨("Shard", some "has"), "has", "Shard.has", defArgs s_Shard_has, defBody s_Shard_has, defScope s_Shard_has, [], []⟩
def d_Shard_size : He.DefD := ⟨("Shard", some "size"), "size", "Shard.size", defArgs s_Shard_size, defBody s_Shard_size, defScope s_Shard_size, [], []⟩
def d_Shard_middle : He.DefD := ⟨("Shard", some "middle"), "middle", "Shard.middle", defArgs s_Shard_middle, defBody s_Shard_middle, defScope s_Shard_middle, [], []⟩
def d_Shard_status : He.DefD := ⟨("Shard", some "status"), "status", "Shard.status", defArgs s_Shard_status, defBody s_Shard_status, defScope s_Shard_status, [], []⟩
def d_Shard_answer : He.DefD := ⟨("Shard", some "answer"), "answer", "Shard.answer", defArgs s_Shard_answer, defBody s_Shard_answer, defScope s_Shard_answer, [], []⟩
def d_Shard_serve : He.DefD := ⟨("Shard", some "serve"), "serve", "Shard.serve", defArgs s_Shard_serve, defBody s_Shard_serve, defScope s_Shard_serve, [], []⟩
def d_Shard_split : He.DefD := ⟨("Shard", some "split"), "split", "Shard.split", defArgs s_Shard_split, defBody s_Shard_split, defScope s_Shard_split, [], []⟩
def d_Shard_join : He.DefD := ⟨("Shard", some "join"), "join", "Shard.join", defArgs s_Shard_join, defBody s_Shard_join, defScope s_Shard_join, [], []⟩
def d_Shard_content : He.DefD := ⟨("Shard", some "content"), "content", "Shard.content", defArgs s_Shard_content, defBody s_Shard_content, defScope s_Shard_content, [], []⟩
def d_Shard_clone : He.DefD := ⟨("Shard", some "clone"), "clone", "Shard.clone", defArgs s_Shard_clone, defBody s_Shard_clone, defScope s_Shard_clone, [], []⟩
def fn : List He.DefD := [d__wall, d_is_key, d_is_bound, d_is_range, d_below, d_contains, d_is_printable, d_is_integer, d_kind_of, d_is_value, d__is_pair, d_are_pairs, d__is_key_alone, d__is_put, d__is_swap, d__is_page, d_is_operation, d_place, d_is_within, d__get, d__put, d__drop, d__swap, d__page, d_apply, d__is_word_alone, d__is_value_told, d__is_page_told, d_is_answer, d_is_client, d_is_pairs, d_is_number, d__is_row, d_is_rows, d_made, d__law_cell, d__law_rich, d__law_word, d__law_key, d__law_bound, d__law_value, d__law_range, d__law_operation, d__law_filled, d__law_spoilt, d__law_is_bound, d__law_rises, d__law_right, d__law_made, d_law, d_Sessions___init__, d_Sessions_status, d_Sessions_answer, d_Sessions_remember, d_Sessions_rows, d_Sessions_merged, d_Sessions_clone, d_Shard___init__, d_Shard_has, d_Shard_size, d_Shard_middle, d_Shard_status, d_Shard_answer, d_Shard_serve, d_Shard_split, d_Shard_join, d_Shard_content, d_Shard_clone]
def fa : List He.Fa := [.glo "_wall", .glo "is_key", .glo "is_bound", .glo "is_range", .glo "below", .glo "contains", .glo "is_printable", .glo "is_integer", .glo "kind_of", .glo "is_value", .glo "_is_pair", .glo "are_pairs", .glo "_is_key_alone", .glo "_is_put", .glo "_is_swap", .glo "_is_page", .glo "is_operation", .glo "place", .glo "is_within", .glo "_get", .glo "_put", .glo "_drop", .glo "_swap", .glo "_page", .glo "apply", .glo "_is_word_alone", .glo "_is_value_told", .glo "_is_page_told", .glo "is_answer", .glo "is_client", .glo "is_pairs", .glo "is_number", .glo "_is_row", .glo "is_rows", .glo "made", .glo "_law_cell", .glo "_law_rich", .glo "_law_word", .glo "_law_key", .glo "_law_bound", .glo "_law_value", .glo "_law_range", .glo "_law_operation", .glo "_law_filled", .glo "_law_spoilt", .glo "_law_is_bound", .glo "_law_rises", .glo "_law_right", .glo "_law_made", .glo "law", .glo "NONE", .glo "DONE", .glo "OPERATIONS", .glo "ACTIONS", .glo "ANSWERS", .glo "Sessions", .glo "Shard", .glo "TableError", .glo "BadOperation", .glo "BadShard", .free "len", .free "isinstance", .free "str", .free "ord", .free "bool", .free "int", .free "tuple", .free "sorted", .free "range", .free "max", .free "min", .free "list", .free "all", .int "MOST_KEY" 8, .int "BARRED" 37, .int "MOST_VALUE" 40, .int "MOST_PAGE" 50, .int "MOST_CLIENTS" 100, .int "MOST_NUMBER" 1000000000000, .exc "BadOperation", .exc "BadShard", .exm "TableError" "BadShard" false, .exm "BadOperation" "BadShard" false, .exm "BadShard" "BadShard" true, .cls "Sessions", .cls "Shard", .noat "Sessions" "_last", .noat "Shard" "low", .noat "Shard" "high", .noat "Shard" "epoch", .noat "Shard" "_items", .noat "Shard" "_sessions", .meth "Sessions" "status", .meth "Sessions" "answer", .meth "Sessions" "remember", .meth "Sessions" "rows", .meth "Sessions" "merged", .meth "Sessions" "clone", .meth "Shard" "has", .meth "Shard" "size", .meth "Shard" "middle", .meth "Shard" "status", .meth "Shard" "answer", .meth "Shard" "serve", .meth "Shard" "split", .meth "Shard" "join", .meth "Shard" "content", .meth "Shard" "clone", .mkr "Sessions", .mkr "Shard"]
def ts : List He.Tab := [(fun K => He.ga K "OPERATIONS", ["get", "put", "drop", "swap", "page"]), (fun K => He.ga K "ACTIONS", ["get", "put", "drop", "swap", "page"]), (fun K => He.ga K "ANSWERS", ["value", "none", "done", "other", "page"])]
def ex (K : Frag) : Bool := noLst K && tupB K (He.ga K "NONE") ["none"] && tupB K (He.ga K "DONE") ["done"]
 && tabVB K "OPERATIONS" [("get", .fn "_is_key_alone"), ("put", .fn "_is_put"), ("drop", .fn "_is_key_alone"), ("swap", .fn "_is_swap"), ("page", .fn "_is_page")] && tabVB K "ACTIONS" [("get", .fn "_get"), ("put", .fn "_put"), ("drop", .fn "_drop"), ("swap", .fn "_swap"), ("page", .fn "_page")] && tabVB K "ANSWERS" [("value", .fn "_is_value_told"), ("none", .fn "_is_word_alone"), ("done", .fn "_is_word_alone"), ("other", .fn "_is_value_told"), ("page", .fn "_is_page_told")]
abbrev R : PySem.W.OpenRow := PySem.W.OpenLaw.row PySem.Challenge.rw_boundstone_k26_shards_made_from_content
abbrev hk : PySem.W.Hook := He.hookX 5 fa fn ts [] ex
def ob (s : PySem.W.SharedT) : He.AlX := He.obsX 5 fa fn ts [] ex (HandSHeadRun.getT s)
theorem ob_eq (s : PySem.W.SharedT) : ob s = hk.obs s.abs := He.obsX_eq (HandSHeadRun.getT_eq s)
def loose : List PySem.Str := (["_wall", "is_key", "is_bound", "is_range", "below", "contains", "is_printable", "is_integer", "kind_of", "is_value", "are_pairs", "_is_pair", "_is_key_alone", "_is_put", "_is_swap", "_is_page", "is_operation", "place", "is_within", "_get"] : List PySem.Str) ++ (["_put", "_drop", "_swap", "_page", "apply", "_is_word_alone", "_is_value_told", "_is_page_told", "is_answer", "is_client", "is_pairs", "is_rows", "_is_row", "is_number", "made", "_law_cell", "_law_rich", "_law_word", "_law_key", "_law_bound"] : List PySem.Str) ++ (["_law_value", "_law_range", "_law_operation", "_law_filled", "_law_spoilt", "_law_is_bound", "_law_rises", "_law_right", "_law_made", "TableError", "BadOperation", "BadShard", "MOST_KEY", "MOST_VALUE", "MOST_PAGE", "MOST_CLIENTS", "MOST_NUMBER", "BARRED", "NONE", "DONE"] : List PySem.Str) ++ (["OPERATIONS", "ACTIONS", "ANSWERS", "Sessions", "Shard"] : List PySem.Str)
theorem run1 (w : World) : HandSHeadRun.RunEq R (PySem.W.view R.prog [73]) hk ob 8000 loose (w.withFollow "special-get-raises" false) := fun os => by kernel_rfl
theorem run2 (w : World) : HandSHeadRun.RunEq R (PySem.W.view R.prog [73]) hk ob 8000 loose (w.withFollow "special-get-raises" true) := fun os => by kernel_rfl
theorem run (w : World) : HandSHeadRun.RunEq R (PySem.W.view R.prog [73]) hk ob 8000 loose w :=
  PySem.W.byRow2 "special-get-raises" (P := fun w => HandSHeadRun.RunEq R (PySem.W.view R.prog [73]) hk ob 8000 loose w) run1 run2 w
end K26
/-! Q: programs as functions over values and a store; what is tracked may change, all else stands. -/
namespace Q
open PySem L2 Evl
abbrev Rho := List (Option W)
/-- what is tracked: lists, dicts (int and text keys; rk, rt: while they are walked), dicts with tuple keys, instances -/
inductive O where
  | ls (ws : List W) | dk (kvs : List (Key × W)) | rk (kvs : List (Key × W)) | dt (kvs : List (List Key × W)) | ins (x : Str) (fs : List (Str × W)) | tb (p : Str × Option Str) (q : Str)
abbrev Mu := Addr → Option O
/-- a tuple of the text -/
def WrT (K : Frag) (a : Addr) (xs : List V) : Prop := ∃ (o : Obj) (its : Array Value) (n : Nat), K.lookup a = some o ∧ o.cls = .type "tuple" ∧ o.data = .seq its n ∧ its.size ≤ sizeLine ∧ Vals xs its.toList
def TupAt (K : Frag) (H : Hp) (μ : Mu) (a : Addr) (vs : List V) : Prop := (H a = some (.tup vs) ∧ μ a = none) ∨ WrT K a vs
def LstAt (H : Hp) (μ : Mu) (a : Addr) (vs : List V) : Prop := H a = some (.lst vs) ∧ μ a = none
def RolAt (H : Hp) (μ : Mu) (a : Addr) (vs : List V) : Prop := Rd H a (.lst vs) ∧ μ a = none
mutual
inductive Rw (K : Frag) (H : Hp) (μ : Mu) : V → W → Prop
  | non : Rw K H μ .non .non
  | bl (b : Bool) : Rw K H μ (.bl b) (.bl b)
  | int (i : Int) : Rw K H μ (.int i) (.int i)
  | str (x : Str) : Rw K H μ (.str x) (.str x)
  | ref (a : Addr) : Rw K H μ (.ref a) (.ref a)
  | fn (x : Str) : Rw K H μ (.ref (He.ga K x)) (.fn x)
  | tup {a : Addr} {vs : List V} {ws : List W} : TupAt K H μ a vs → RwAll K H μ vs ws → Rw K H μ (.ref a) (.tup ws)
  | lst {a : Addr} {vs : List V} {ws : List W} : LstAt H μ a vs → RwAll K H μ vs ws → Rw K H μ (.ref a) (.lst ws)
  | rol {a : Addr} {vs : List V} {ws : List W} : RolAt H μ a vs → RwAll K H μ vs ws → Rw K H μ (.ref a) (.rol ws)
  | exc {a : Addr} {c : Str} : Rw K H μ (.ref a) (.exc a none c [])
  | excf {a d : Addr} {c : Str} {fv : List (Str × V)} {fs : List (Str × W)} : H d = some (.xd fv) → μ d = none → RwF K H μ fv fs → Rw K H μ (.ref a) (.exc a (some d) c fs)
inductive RwAll (K : Frag) (H : Hp) (μ : Mu) : List V → List W → Prop
  | nil : RwAll K H μ [] []
  | cons {v : V} {vs : List V} {w : W} {ws : List W} : Rw K H μ v w → RwAll K H μ vs ws → RwAll K H μ (v :: vs) (w :: ws)
inductive RwF (K : Frag) (H : Hp) (μ : Mu) : List (Str × V) → List (Str × W) → Prop
  | nil : RwF K H μ [] []
  | cons {f : Str} {v : V} {vs : List (Str × V)} {w : W} {ws : List (Str × W)} : Rw K H μ v w → RwF K H μ vs ws → RwF K H μ ((f, v) :: vs) ((f, w) :: ws)
end
/-- from (μ, H) to (μ', H'): what was there and not tracked stands and is not tracked -/
structure Stp (μ : Mu) (H : Hp) (μ' : Mu) (H' : Hp) : Prop where
  st : ∀ a o, H a = some o → μ a = none → H' a = some o ∧ μ' a = none
  fz : ∀ a o u, H a = some (.frz o u) → H' a = some (.frz o u)
theorem Stp.refl (μ : Mu) (H : Hp) : Stp μ H μ H := ⟨fun _ _ h q => ⟨h, q⟩, fun _ _ _ h => h⟩
theorem Stp.trans {μ μ1 μ2 : Mu} {H H1 H2 : Hp} (a : Stp μ H μ1 H1) (b : Stp μ1 H1 μ2 H2) : Stp μ H μ2 H2 := ⟨fun c o h q => b.st c o (a.st c o h q).1 (a.st c o h q).2, fun c o u h => b.fz c o u (a.fz c o u h)⟩
/-- what is not tracked stands -/
abbrev Sto (μ : Mu) (H : Hp) (μ' : Mu) (H' : Hp) : Prop := ∀ a o, H a = some o → μ a = none → H' a = some o ∧ μ' a = none
theorem sto_rd {μ μ' : Mu} {H H' : Hp} (e : Sto μ H μ' H') {a : Addr} {u : HO} (h : Rd H a u) (q : μ a = none) : Rd H' a u ∧ μ' a = none := by
  rcases h with h | ⟨o, h⟩
  · exact ⟨.inl (e a _ h q).1, (e a _ h q).2⟩
  · exact ⟨.inr ⟨o, (e a _ h q).1⟩, (e a _ h q).2⟩
mutual
theorem Rw.sto {K : Frag} {μ μ' : Mu} {H H' : Hp} (e : Sto μ H μ' H') : ∀ {v : V} {w : W}, Rw K H μ v w → Rw K H' μ' v w
  | _, _, .non => .non
  | _, _, .bl b => .bl b
  | _, _, .int i => .int i
  | _, _, .str x => .str x
  | _, _, .ref a => .ref a
  | _, _, .fn x => .fn x
  | _, _, .tup (.inl h) hs => .tup (.inl (e _ _ h.1 h.2)) (RwAll.sto e hs)
  | _, _, .tup (.inr h) hs => .tup (.inr h) (RwAll.sto e hs)
  | _, _, .lst h hs => .lst (e _ _ h.1 h.2) (RwAll.sto e hs)
  | _, _, .rol h hs => .rol (sto_rd e h.1 h.2) (RwAll.sto e hs)
  | _, _, .exc => .exc
  | _, _, .excf h q hs => .excf (e _ _ h q).1 (e _ _ h q).2 (RwF.sto e hs)
theorem RwAll.sto {K : Frag} {μ μ' : Mu} {H H' : Hp} (e : Sto μ H μ' H') : ∀ {vs : List V} {ws : List W}, RwAll K H μ vs ws → RwAll K H' μ' vs ws
  | _, _, .nil => .nil
  | _, _, .cons h hs => .cons (Rw.sto e h) (RwAll.sto e hs)
theorem RwF.sto {K : Frag} {μ μ' : Mu} {H H' : Hp} (e : Sto μ H μ' H') : ∀ {vs : List (Str × V)} {ws : List (Str × W)}, RwF K H μ vs ws → RwF K H' μ' vs ws
  | _, _, .nil => .nil
  | _, _, .cons h hs => .cons (Rw.sto e h) (RwF.sto e hs)
end
theorem Rw.stp {K : Frag} {μ μ' : Mu} {H H' : Hp} (e : Stp μ H μ' H') {v : V} {w : W} (h : Rw K H μ v w) : Rw K H' μ' v w := h.sto e.st
theorem RwAll.stp {K : Frag} {μ μ' : Mu} {H H' : Hp} (e : Stp μ H μ' H') {v : List V} {w : List W} (h : RwAll K H μ v w) : RwAll K H' μ' v w := h.sto e.st
theorem RwF.stp {K : Frag} {μ μ' : Mu} {H H' : Hp} (e : Stp μ H μ' H') {v : List (Str × V)} {w : List (Str × W)} (h : RwF K H μ v w) : RwF K H' μ' v w := h.sto e.st
theorem RwAll.len {K : Frag} {H : Hp} {μ : Mu} : ∀ {vs : List V} {ws : List W}, RwAll K H μ vs ws → vs.length = ws.length
  | _, _, .nil => rfl
  | _, _, .cons _ hs => congrArg Nat.succ hs.len
theorem RwAll.at {K : Frag} {H : Hp} {μ : Mu} : ∀ {vs : List V} {ws : List W} (i : Nat) {w : W}, RwAll K H μ vs ws → ws[i]? = some w → ∃ v, vs[i]? = some v ∧ Rw K H μ v w
  | _, _, i, w, .nil, e => by simp at e
  | _, _, 0, w, .cons h _, e => by
    cases e
    exact ⟨_, rfl, h⟩
  | _, _, i + 1, w, .cons _ hs, e => RwAll.at i hs e
theorem RwAll.app {K : Frag} {H : Hp} {μ : Mu} : ∀ {vs us : List V} {ws xs : List W}, RwAll K H μ vs ws → RwAll K H μ us xs → RwAll K H μ (vs ++ us) (ws ++ xs)
  | _, _, _, _, .nil, g => g
  | _, _, _, _, .cons h hs, g => .cons h (RwAll.app hs g)
theorem RwAll.take {K : Frag} {H : Hp} {μ : Mu} : ∀ {vs : List V} {ws : List W} (n : Nat), RwAll K H μ vs ws → RwAll K H μ (vs.take n) (ws.take n)
  | _, _, 0, _ => .nil
  | _, _, _ + 1, .nil => .nil
  | _, _, n + 1, .cons h hs => .cons h (RwAll.take n hs)
theorem RwAll.drop {K : Frag} {H : Hp} {μ : Mu} : ∀ {vs : List V} {ws : List W} (n : Nat), RwAll K H μ vs ws → RwAll K H μ (vs.drop n) (ws.drop n)
  | _, _, 0, h => h
  | _, _, _ + 1, .nil => .nil
  | _, _, n + 1, .cons _ hs => RwAll.drop n hs
theorem RwAll.set {K : Frag} {H : Hp} {μ : Mu} {x : V} {y : W} (h : Rw K H μ x y) : ∀ {vs : List V} {ws : List W} (i : Nat), RwAll K H μ vs ws → RwAll K H μ (vs.set i x) (ws.set i y)
  | _, _, _, .nil => .nil
  | _, _, 0, .cons _ hs => .cons h hs
  | _, _, i + 1, .cons g hs => .cons g (RwAll.set h i hs)
theorem RwAll.erase {K : Frag} {H : Hp} {μ : Mu} : ∀ {vs : List V} {ws : List W} (i : Nat), RwAll K H μ vs ws → RwAll K H μ (vs.eraseIdx i) (ws.eraseIdx i)
  | _, _, _, .nil => .nil
  | _, _, 0, .cons _ hs => hs
  | _, _, i + 1, .cons g hs => .cons g (RwAll.erase i hs)
theorem RwAll.ins {K : Frag} {H : Hp} {μ : Mu} {x : V} {y : W} (h : Rw K H μ x y) : ∀ {vs : List V} {ws : List W} (i : Nat), RwAll K H μ vs ws → RwAll K H μ (vs.take i ++ x :: vs.drop i) (ws.take i ++ y :: ws.drop i) :=
  fun i r => (r.take i).app (.cons h (r.drop i))
theorem RwAll.one {K : Frag} {H : Hp} {μ : Mu} {vs : List V} {x : W} (h : RwAll K H μ vs [x]) : ∃ v, vs = [v] ∧ Rw K H μ v x := by
  cases h with
  | cons a b =>
    cases b
    exact ⟨_, rfl, a⟩
theorem RwAll.two {K : Frag} {H : Hp} {μ : Mu} {vs : List V} {x y : W} (h : RwAll K H μ vs [x, y]) : ∃ v w, vs = [v, w] ∧ Rw K H μ v x ∧ Rw K H μ w y := by
  cases h with
  | cons a b =>
    obtain ⟨w, rfl, c⟩ := RwAll.one b
    exact ⟨_, w, rfl, a, c⟩
theorem rw_ints {K : Frag} {H : Hp} {μ : Mu} : ∀ ns : List Int, RwAll K H μ (ns.map V.int) (ns.map W.int)
  | [] => .nil
  | i :: r => .cons (.int i) (rw_ints r)
theorem rw_strs {K : Frag} {H : Hp} {μ : Mu} : ∀ ns : List Str, RwAll K H μ (ns.map V.str) (ns.map W.str)
  | [] => .nil
  | i :: r => .cons (.str i) (rw_strs r)
theorem ints_of {K : Frag} {H : Hp} {μ : Mu} : ∀ {vs : List V} {ns : List Int}, RwAll K H μ vs (ns.map W.int) → vs = ns.map V.int
  | _, [], h => by
    cases h
    rfl
  | _, n :: r, h => by
    cases h with
    | cons a b =>
      cases a
      rw [ints_of b]
      rfl
theorem strs_of {K : Frag} {H : Hp} {μ : Mu} : ∀ {vs : List V} {ns : List Str}, RwAll K H μ vs (ns.map W.str) → vs = ns.map V.str
  | _, [], h => by
    cases h
    rfl
  | _, n :: r, h => by
    cases h with
    | cons a b =>
      cases a
      rw [strs_of b]
      rfl
theorem bls_of {K : Frag} {H : Hp} {μ : Mu} : ∀ {vs : List V} {ns : List Bool}, RwAll K H μ vs (ns.map W.bl) → vs = ns.map V.bl
  | _, [], h => by
    cases h
    rfl
  | _, n :: r, h => by
    cases h with
    | cons a b =>
      cases a
      rw [bls_of b]
      rfl
/-- pairs with keys of any kind -/
inductive RwP (K : Frag) (H : Hp) (μ : Mu) {κ : Type} : List (κ × V) → List (κ × W) → Prop
  | nil : RwP K H μ [] []
  | cons {k : κ} {v : V} {vs : List (κ × V)} {w : W} {ws : List (κ × W)} : Rw K H μ v w → RwP K H μ vs ws → RwP K H μ ((k, v) :: vs) ((k, w) :: ws)
theorem RwP.sto {K : Frag} {μ μ' : Mu} {H H' : Hp} {κ : Type} (e : Sto μ H μ' H') : ∀ {vs : List (κ × V)} {ws : List (κ × W)}, RwP K H μ vs ws → RwP K H' μ' vs ws
  | _, _, .nil => .nil
  | _, _, .cons h hs => .cons (h.sto e) (RwP.sto e hs)
theorem RwP.stp {K : Frag} {μ μ' : Mu} {H H' : Hp} {κ : Type} (e : Stp μ H μ' H') {vs : List (κ × V)} {ws : List (κ × W)} (h : RwP K H μ vs ws) : RwP K H' μ' vs ws := h.sto e.st
theorem RwP.len {K : Frag} {H : Hp} {μ : Mu} {κ : Type} : ∀ {vs : List (κ × V)} {ws : List (κ × W)}, RwP K H μ vs ws → vs.length = ws.length
  | _, _, .nil => rfl
  | _, _, .cons _ hs => congrArg Nat.succ hs.len
theorem RwP.keys {K : Frag} {H : Hp} {μ : Mu} {κ : Type} : ∀ {vs : List (κ × V)} {ws : List (κ × W)}, RwP K H μ vs ws → vs.map (·.1) = ws.map (·.1)
  | _, _, .nil => rfl
  | _, _, .cons _ hs => congrArg _ hs.keys
def RelO (K : Frag) (H : Hp) (μ : Mu) (a : Addr) : O → Prop
  | .ls ws => ∃ vs, H a = some (.lst vs) ∧ RwAll K H μ vs ws
  | .dk kvs => ∃ kv, H a = some (.dK kv) ∧ RwP K H μ kv kvs
  | .rk kvs => ∃ o kv, H a = some (.frz o (.dK kv)) ∧ RwP K H μ kv kvs
  | .dt kvs => ∃ kv, H a = some (.dT kv) ∧ RwP K H μ kv kvs
  | .ins x fs => ∃ dx fv, H a = some (.ins (He.ga K x) dx fv) ∧ RwP K H μ fv fs
  | .tb p q => a = (He.cT K p).2 ∧ ∃ ps : Array Value, H a = some (.tbl ps) ∧ TriplesOk ps.toList ∧ ∀ (pos : Pos) (cv : Value), codeAmong pos ps.toList = some cv → ∃ c, cv = .ref c ∧ H c = some (LamX.CodeO c q) ∧ μ c = none
theorem RelO.sto {K : Frag} {μ μ' : Mu} {H H' : Hp} (e : Sto μ H μ' H') {a : Addr} {o : O} (q : H' a = H a) (h : RelO K H μ a o) : RelO K H' μ' a o := by
  cases o with
  | ls ws => exact h.imp fun vs h => ⟨q.trans h.1, h.2.sto e⟩
  | dk kvs => exact h.imp fun vs h => ⟨q.trans h.1, h.2.sto e⟩
  | rk kvs => exact h.imp fun o h => h.imp fun vs h => ⟨q.trans h.1, h.2.sto e⟩
  | dt kvs => exact h.imp fun vs h => ⟨q.trans h.1, h.2.sto e⟩
  | ins x fs => exact h.imp fun dx h => h.imp fun fv h => ⟨q.trans h.1, h.2.sto e⟩
  | tb p y =>
    obtain ⟨ea, ps, h1, h2, h3⟩ := h
    refine ⟨ea, ps, q.trans h1, h2, fun pos cv hc => ?_⟩
    obtain ⟨c, e1, e2, e3⟩ := h3 pos cv hc
    exact ⟨c, e1, e c _ e2 e3⟩
theorem RelO.stp {K : Frag} {μ μ' : Mu} {H H' : Hp} (e : Stp μ H μ' H') {a : Addr} {o : O} (q : H' a = H a) (h : RelO K H μ a o) : RelO K H' μ' a o := h.sto e.st q
theorem RelO.there {K : Frag} {H : Hp} {μ : Mu} {a : Addr} {o : O} (h : RelO K H μ a o) : ∃ u, H a = some u := by
  cases o with
  | ls ws => exact h.elim fun vs h => ⟨_, h.1⟩
  | dk kvs => exact h.elim fun vs h => ⟨_, h.1⟩
  | rk kvs => exact h.elim fun o h => h.elim fun vs h => ⟨_, h.1⟩
  | dt kvs => exact h.elim fun vs h => ⟨_, h.1⟩
  | ins x fs => exact h.elim fun dx h => h.elim fun vs h => ⟨_, h.1⟩
  | tb p y => exact h.elim fun ea h => h.elim fun ps h => ⟨_, h.1⟩
def Mem (K : Frag) (H : Hp) (μ : Mu) : Prop := ∀ a o, μ a = some o → RelO K H μ a o
theorem Mem.free {K : Frag} {H : Hp} {μ : Mu} (m : Mem K H μ) {p : Addr} (h : H p = none) : μ p = none := by
  cases q : μ p with
  | none => rfl
  | some o =>
    obtain ⟨u, hu⟩ := (m p o q).there
    rw [h] at hu
    cases hu
def mset (μ : Mu) (a : Addr) (o : O) : Mu := fun b => if b = a then some o else μ b
theorem mset_same {μ : Mu} {a : Addr} {o : O} : mset μ a o a = some o := if_pos rfl
theorem mset_ne {μ : Mu} {a b : Addr} {o : O} (h : b ≠ a) : mset μ a o b = μ b := if_neg h
theorem mset_mset {μ : Mu} {a : Addr} {o u : O} : mset (mset μ a o) a u = mset μ a u := by
  funext b
  unfold mset
  split <;> rfl
theorem mset_comm {μ : Mu} {a b : Addr} {o u : O} (h : a ≠ b) : mset (mset μ a o) b u = mset (mset μ b u) a o := by
  funext c
  unfold mset
  by_cases h1 : c = a
  · by_cases h2 : c = b
    · exact absurd (h1.symm.trans h2) h
    · rw [if_neg h2, if_pos h1, if_pos h1]
  · by_cases h2 : c = b
    · rw [if_pos h2, if_neg h1, if_pos h2]
    · rw [if_neg h2, if_neg h1, if_neg h1, if_neg h2]
theorem mset_self {μ : Mu} {a : Addr} {o : O} (h : μ a = some o) : mset μ a o = μ := by
  funext b
  unfold mset
  split
  · rename_i e
    rw [e, h]
  · rfl
/-- a new object that is not tracked -/
theorem Stp.new {μ : Mu} {H : Hp} {p : Addr} {u : HO} (h : H p = none) : Stp μ H μ (upd H p u) := ⟨fun a o q n => ⟨by rw [upd_ne (ne_of_none q h)]; exact q, n⟩, fun a o v q => by rw [upd_ne (ne_of_none q h)]; exact q⟩
theorem Stp.newT {μ : Mu} {H : Hp} {p : Addr} {u : HO} {o : O} (h : H p = none) : Stp μ H (mset μ p o) (upd H p u) := ⟨fun a x q n => ⟨by rw [upd_ne (ne_of_none q h)]; exact q, by rw [mset_ne (ne_of_none q h)]; exact n⟩, fun a o v q => by rw [upd_ne (ne_of_none q h)]; exact q⟩
/-- a tracked object is changed -/
def noFz (H : Hp) (a : Addr) : Prop := ∀ o u, H a ≠ some (.frz o u)
theorem Stp.put {μ : Mu} {H : Hp} {a : Addr} {u : HO} {o o' : O} (h : μ a = some o) (nf : noFz H a) : Stp μ H (mset μ a o') (upd H a u) := ⟨fun b x q n => by
  have ne : b ≠ a := fun e => by
    rw [e, h] at n
    cases n
  exact ⟨by rw [upd_ne ne]; exact q, by rw [mset_ne ne]; exact n⟩, fun b x v q => by
  have ne : b ≠ a := fun e => nf x v (by rw [← e]; exact q)
  rw [upd_ne ne]
  exact q⟩
theorem nf_lst {H : Hp} {a : Addr} {vs : List V} (h : H a = some (.lst vs)) : noFz H a := fun o u q => by
  rw [h] at q
  cases q
theorem nf_dk {H : Hp} {a : Addr} {vs : List (Key × V)} (h : H a = some (.dK vs)) : noFz H a := fun o u q => by
  rw [h] at q
  cases q
theorem nf_ins {H : Hp} {a C dx : Addr} {fs : List (Str × V)} (h : H a = some (.ins C dx fs)) : noFz H a := fun o u q => by
  rw [h] at q
  cases q
theorem Mem.sto {K : Frag} {H H' : Hp} {μ μ' : Mu} (m : Mem K H μ) (e : Sto μ H μ' H') (k : ∀ b o, μ' b = some o → (μ b = some o ∧ H' b = H b) ∨ RelO K H' μ' b o) : Mem K H' μ' := fun b o q => by
  rcases k b o q with ⟨q1, q2⟩ | r
  · exact (m b o q1).sto e q2
  · exact r
theorem Mem.step {K : Frag} {H H' : Hp} {μ μ' : Mu} (m : Mem K H μ) (e : Stp μ H μ' H') (k : ∀ b o, μ' b = some o → (μ b = some o ∧ H' b = H b) ∨ RelO K H' μ' b o) : Mem K H' μ' := m.sto e.st k
theorem Mem.new {K : Frag} {H : Hp} {μ : Mu} {p : Addr} {u : HO} (m : Mem K H μ) (h : H p = none) : Mem K (upd H p u) μ := m.step (Stp.new h) fun b o q => .inl ⟨q, upd_ne fun e => by
  rw [e, m.free h] at q
  cases q⟩
theorem Mem.put {K : Frag} {H : Hp} {μ : Mu} {a : Addr} {u : HO} {o : O} (m : Mem K H μ) (e : Stp μ H (mset μ a o) (upd H a u)) (r : RelO K (upd H a u) (mset μ a o) a o) : Mem K (upd H a u) (mset μ a o) := m.step e fun b x q => by
  by_cases hb : b = a
  · subst hb
    rw [mset_same] at q
    cases q
    exact .inr r
  · rw [mset_ne hb] at q
    exact .inl ⟨q, upd_ne hb⟩
/-! slots -/
def Holds (K : Frag) (H : Hp) (μ : Mu) (σ : L2.St) (ρ : Rho) : Prop := σ.length = ρ.length ∧ ∀ (i : Nat) (d : W), ρ[i]? = some (some d) → ∃ v, σ[i]? = some (some v) ∧ Rw K H μ v d
theorem Holds.sto {K : Frag} {H H' : Hp} {μ μ' : Mu} {σ : L2.St} {ρ : Rho} (e : Sto μ H μ' H') (h : Holds K H μ σ ρ) : Holds K H' μ' σ ρ :=
  ⟨h.1, fun i d q => (h.2 i d q).imp fun _ z => ⟨z.1, z.2.sto e⟩⟩
theorem Holds.stp {K : Frag} {H H' : Hp} {μ μ' : Mu} {σ : L2.St} {ρ : Rho} (e : Stp μ H μ' H') (h : Holds K H μ σ ρ) : Holds K H' μ' σ ρ := h.sto e.st
theorem Holds.put {K : Frag} {H : Hp} {μ : Mu} {σ : L2.St} {ρ : Rho} {v : V} {d : W} (i : Nat) (h : Holds K H μ σ ρ) (hv : Rw K H μ v d) : Holds K H μ (σ.set i (some v)) (ρ.set i (some d)) := by
  refine ⟨by rw [List.length_set, List.length_set, h.1], fun j e q => ?_⟩
  rw [List.getElem?_set] at q ⊢
  by_cases hij : i = j
  · subst hij
    rw [if_pos rfl] at q ⊢
    rw [h.1]
    by_cases hl : i < ρ.length
    · rw [if_pos hl] at q ⊢
      cases q
      exact ⟨v, rfl, hv⟩
    · rw [if_neg hl] at q
      cases q
  · rw [if_neg hij] at q ⊢
    exact h.2 j e q
theorem Holds.hide {K : Frag} {H : Hp} {μ : Mu} {σ : L2.St} {ρ : Rho} {v : Option V} (i : Nat) (h : Holds K H μ σ ρ) : Holds K H μ (σ.set i v) (ρ.set i none) := by
  refine ⟨by rw [List.length_set, List.length_set, h.1], fun j e q => ?_⟩
  rw [List.getElem?_set] at q ⊢
  by_cases hij : i = j
  · subst hij
    rw [if_pos rfl] at q
    split at q <;> cases q
  · rw [if_neg hij] at q ⊢
    exact h.2 j e q
theorem Holds.start {K : Frag} {H : Hp} {μ : Mu} {N : List Str} {vs : List V} {ds : List W} (h : RwAll K H μ vs ds) : Holds K H μ (L2.start N vs) (ds.map some ++ List.replicate (N.length - ds.length) none) := by
  have hl := h.len
  refine ⟨by unfold L2.start; simp [hl], fun i d q => ?_⟩
  unfold L2.start
  by_cases hi : i < ds.length
  · rw [List.getElem?_append_left (by simpa using hi), List.getElem?_map] at q
    rw [List.getElem?_append_left (by simpa [hl] using hi), List.getElem?_map]
    cases e : ds[i]? with
    | none =>
      rw [e] at q
      cases q
    | some d' =>
      rw [e] at q
      cases q
      obtain ⟨v, e1, e2⟩ := RwAll.at i h e
      exact ⟨v, by rw [e1]; rfl, e2⟩
  · rw [List.getElem?_append_right (by simpa using hi)] at q
    rw [List.getElem?_replicate] at q
    split at q <;> cases q
/-! forgetting, and lists that become values -/
mutual
inductive Fz (μ μ' : Mu) : W → W → Prop
  | same (w : W) : Fz μ μ' w w
  | lst {p : Addr} {ws us : List W} : μ p = some (.ls ws) → μ' p = none → FzAll μ μ' ws us → Fz μ μ' (.ref p) (.lst us)
  | tup {ws us : List W} : FzAll μ μ' ws us → Fz μ μ' (.tup ws) (.tup us)
  | inl {ws us : List W} : FzAll μ μ' ws us → Fz μ μ' (.lst ws) (.lst us)
inductive FzAll (μ μ' : Mu) : List W → List W → Prop
  | same (ws : List W) : FzAll μ μ' ws ws
  | cons {w u : W} {ws us : List W} : Fz μ μ' w u → FzAll μ μ' ws us → FzAll μ μ' (w :: ws) (u :: us)
end
/-- μ' holds less than μ -/
def Sub (μ' μ : Mu) : Prop := ∀ a o, μ' a = some o → μ a = some o
theorem Sub.refl (μ : Mu) : Sub μ μ := fun _ _ h => h
theorem Sub.trans {μ μ1 μ2 : Mu} (a : Sub μ2 μ1) (b : Sub μ1 μ) : Sub μ2 μ := fun c o h => b c o (a c o h)
theorem Sub.new {μ : Mu} {p : Addr} {o : O} (h : μ p = none) : Sub μ (mset μ p o) := fun a u e => by
  rw [mset_ne fun z => by
    rw [z, h] at e
    cases e]
  exact e
theorem Sub.none {μ μ' : Mu} (s : Sub μ' μ) {a : Addr} (h : μ a = none) : μ' a = none := by
  cases e : μ' a with
  | none => rfl
  | some o =>
    rw [s a o e] at h
    cases h
theorem Sub.stp {μ μ' : Mu} (s : Sub μ' μ) (H : Hp) : Stp μ H μ' H := ⟨fun _ _ h q => ⟨h, s.none q⟩, fun _ _ _ h => h⟩
theorem Sub.mem {K : Frag} {H : Hp} {μ μ' : Mu} (s : Sub μ' μ) (m : Mem K H μ) : Mem K H μ' := m.step (s.stp H) fun b o q => .inl ⟨s b o q, rfl⟩
mutual
theorem Fz.rw {K : Frag} {H : Hp} {μ μ' : Mu} (s : Sub μ' μ) (m : Mem K H μ) : ∀ {w u : W} {v : V}, Fz μ μ' w u → Rw K H μ v w → Rw K H μ' v u
  | _, _, _, .same _, h => h.stp (s.stp H)
  | _, _, _, .lst e n z, h => by
    cases h
    obtain ⟨vs, e1, e2⟩ := m _ _ e
    exact .lst ⟨e1, n⟩ (FzAll.rw s m z e2)
  | _, _, _, .tup z, h => by
    cases h with
    | tup h hs =>
      refine .tup ?_ (FzAll.rw s m z hs)
      rcases h with h | h
      · exact .inl ⟨h.1, s.none h.2⟩
      · exact .inr h
  | _, _, _, .inl z, h => by
    cases h with
    | lst h hs => exact .lst ⟨h.1, s.none h.2⟩ (FzAll.rw s m z hs)
theorem FzAll.rw {K : Frag} {H : Hp} {μ μ' : Mu} (s : Sub μ' μ) (m : Mem K H μ) : ∀ {ws us : List W} {vs : List V}, FzAll μ μ' ws us → RwAll K H μ vs ws → RwAll K H μ' vs us
  | _, _, _, .same _, h => h.stp (s.stp H)
  | _, _, _, .cons z zs, h => by
    cases h with
    | cons h hs => exact .cons (Fz.rw s m z h) (FzAll.rw s m zs hs)
end
end Q
namespace Q
open PySem L2 Evl
/-! what is asked of a value and a store; of what is raised: the class, its fields -/
abbrev Po := W → Mu → Prop
abbrev Xo := Str → List (Str × W) → Mu → Prop
abbrev FE := Rho → Mu → Po → Xo → Prop
abbrev FA := Rho → Mu → (List W → Mu → Prop) → Xo → Prop
abbrev FT := Rho → Mu → (Bool → Mu → Prop) → Xo → Prop
structure En where
  nx : Rho → Mu → Prop
  rt : Po
  bk : Rho → Mu → Prop
  ct : Rho → Mu → Prop
  ex : Rho → Xo
abbrev FS := Rho → Mu → En → Prop
inductive Pay (K : Frag) (H : Hp) (μ : Mu) : Option Addr → List (Str × W) → Prop
  | none : Pay K H μ none []
  | some {d : Addr} {fv : List (Str × V)} {fs : List (Str × W)} : H d = Option.some (.xd fv) → μ d = Option.none → RwF K H μ fv fs → Pay K H μ (Option.some d) fs
/-- the wish of what is raised is kept -/
def XL (K : Frag) (E : XK) (μ : Mu) (H : Hp) (X : Xo) : Prop := ∀ c fs μ' d H', X c fs μ' → Stp μ H μ' H' → Mem K H' μ' → Pay K H' μ' d fs → E (.ref (He.ga K c)) d H'
theorem XL.stp {K : Frag} {E : XK} {μ μ1 : Mu} {H H1 : Hp} {X : Xo} (e : Stp μ H μ1 H1) (h : XL K E μ H X) : XL K E μ1 H1 X := fun c fs μ' d H' x e2 => h c fs μ' d H' x (e.trans e2)
def VL (K : Frag) (Q : VK) (μ : Mu) (H : Hp) (P : Po) : Prop := ∀ w μ' v H', P w μ' → Stp μ H μ' H' → Mem K H' μ' → Rw K H' μ' v w → Q v H'
def tE (K : Frag) (E : L2.St → XK) (f : FE) : TE := fun σ H Q => ∃ ρ μ P X, Holds K H μ σ ρ ∧ Mem K H μ ∧ f ρ μ P X ∧ VL K Q μ H P ∧ XL K (E σ) μ H X
def tA (K : Frag) (E : L2.St → XK) (f : FA) : TA := fun σ H Q => ∃ ρ μ P X, Holds K H μ σ ρ ∧ Mem K H μ ∧ f ρ μ P X ∧ (∀ ws μ' vs H', P ws μ' → Stp μ H μ' H' → Mem K H' μ' → RwAll K H' μ' vs ws → Q vs H') ∧ XL K (E σ) μ H X
def tT (K : Frag) (E : L2.St → XK) (f : FT) : TT := fun σ H Q => ∃ ρ μ P X, Holds K H μ σ ρ ∧ Mem K H μ ∧ f ρ μ P X ∧ (∀ b μ' H', P b μ' → Stp μ H μ' H' → Mem K H' μ' → Q b H') ∧ XL K (E σ) μ H X
structure EL (K : Frag) (E : L2.St → XK) (D : Ends) (μ : Mu) (H : Hp) (N : En) : Prop where
  nx : ∀ ρ' μ' σ' H', N.nx ρ' μ' → Stp μ H μ' H' → Mem K H' μ' → Holds K H' μ' σ' ρ' → D.nx σ' H'
  rt : VL K D.rt μ H N.rt
  bk : ∀ ρ' μ' σ' H', N.bk ρ' μ' → Stp μ H μ' H' → Mem K H' μ' → Holds K H' μ' σ' ρ' → D.bk σ' H'
  ct : ∀ ρ' μ' σ' H', N.ct ρ' μ' → Stp μ H μ' H' → Mem K H' μ' → Holds K H' μ' σ' ρ' → D.ct σ' H'
  ex : ∀ ρ' c fs μ' d σ' H', N.ex ρ' c fs μ' → Stp μ H μ' H' → Mem K H' μ' → Holds K H' μ' σ' ρ' → Pay K H' μ' d fs → E σ' (.ref (He.ga K c)) d H'
theorem EL.stp {K : Frag} {E : L2.St → XK} {D : Ends} {μ μ1 : Mu} {H H1 : Hp} {N : En} (e : Stp μ H μ1 H1) (h : EL K E D μ H N) : EL K E D μ1 H1 N :=
  ⟨fun ρ' μ' σ' H' n e2 => h.nx ρ' μ' σ' H' n (e.trans e2), fun w μ' v H' n e2 => h.rt w μ' v H' n (e.trans e2), fun ρ' μ' σ' H' n e2 => h.bk ρ' μ' σ' H' n (e.trans e2), fun ρ' μ' σ' H' n e2 => h.ct ρ' μ' σ' H' n (e.trans e2), fun ρ' c fs μ' d σ' H' n e2 => h.ex ρ' c fs μ' d σ' H' n (e.trans e2)⟩
/-- an expression at (ρ, σ) raises into the statement's wish -/
theorem EL.xl {K : Frag} {E : L2.St → XK} {D : Ends} {μ : Mu} {H : Hp} {N : En} {ρ : Rho} {σ : L2.St} (h : EL K E D μ H N) (hh : Holds K H μ σ ρ) : XL K (E σ) μ H (N.ex ρ) := fun c fs μ' d H' x e m p => h.ex ρ c fs μ' d σ H' x e m (hh.stp e) p
def tS (K : Frag) (E : L2.St → XK) (f : FS) : TS := fun D σ H => ∃ ρ μ N, Holds K H μ σ ρ ∧ Mem K H μ ∧ f ρ μ N ∧ EL K E D μ H N
/-! the judgements -/
structure QE (X : Cx) (E : L2.St → XK) (e : Expr) (f : FE) : Prop where
  pe : PE X e (tE X.K E f)
structure QA (X : Cx) (E : L2.St → XK) (es : List Expr) (f : FA) : Prop where
  pa : PA X es (tA X.K E f)
structure QT (X : Cx) (E : L2.St → XK) (e : Expr) (f : FT) : Prop where
  pt : PT X e (tT X.K E f)
structure QW (X : Cx) (E : L2.St → XK) (e : Expr) (f : FT) : Prop where
  pw : PW X e (tT X.K E f)
structure QS (X : Cx) (E : L2.St → XK) (st : Stmt) (f : FS) : Prop where
  ps : PS X st (tS X.K E f)
structure QSs (X : Cx) (E : L2.St → XK) (st : List Stmt) (f : FS) : Prop where
  pss : PSs X st (tS X.K E f)
theorem _root_.L2.PE.qimp {X : Cx} {e : Expr} {t t' : TE} (h : PE X e t) (k : ∀ σ H Q, t' σ H Q → t σ H Q) : PE X e t' := ⟨fun pins s σ H Q I q => h.run pins s σ H Q I (k σ H Q q)⟩
theorem _root_.L2.PA.qimp {X : Cx} {e : List Expr} {t t' : TA} (h : PA X e t) (k : ∀ σ H Q, t' σ H Q → t σ H Q) : PA X e t' := ⟨fun pos pins s σ H Q I q => h.run pos pins s σ H Q I (k σ H Q q)⟩
theorem _root_.L2.PT.qimp {X : Cx} {e : Expr} {t t' : TT} (h : PT X e t) (k : ∀ σ H Q, t' σ H Q → t σ H Q) : PT X e t' := ⟨fun pins s σ H Q I q => h.run pins s σ H Q I (k σ H Q q)⟩
theorem _root_.L2.PW.qimp {X : Cx} {e : Expr} {t t' : TT} (h : PW X e t) (k : ∀ σ H Q, t' σ H Q → t σ H Q) : PW X e t' := ⟨fun wh pins s σ H Q I q => h.run wh pins s σ H Q I (k σ H Q q)⟩
theorem _root_.L2.PS.qimp {X : Cx} {e : Stmt} {t t' : TS} (h : PS X e t) (k : ∀ D σ H, t' D σ H → t D σ H) : PS X e t' := ⟨fun pins s σ H D I q => h.run pins s σ H D I (k D σ H q)⟩
theorem _root_.L2.PSs.qimp {X : Cx} {e : List Stmt} {t t' : TS} (h : PSs X e t) (k : ∀ D σ H, t' D σ H → t D σ H) : PSs X e t' := ⟨fun pins s σ H D I q => h.run pins s σ H D I (k D σ H q)⟩
/-! ### names, constants -/
@[reducible] def gv : Rho → Nat → Option W
  | [], _ => none
  | x :: _, 0 => x
  | _ :: r, n + 1 => gv r n
theorem gv_get : ∀ {ρ : Rho} {i : Nat} {w : W}, gv ρ i = some w → ρ[i]? = some (some w)
  | [], _, _, h => by cases h
  | x :: r, 0, w, h => by
    have h : x = some w := h
    rw [h]
    rfl
  | x :: r, n + 1, w, h => gv_get (ρ := r) (i := n) h
@[reducible] def sv : Rho → Nat → W → Rho
  | [], _, _ => []
  | _ :: r, 0, w => some w :: r
  | x :: r, n + 1, w => x :: sv r n w
theorem sv_set : ∀ (ρ : Rho) (i : Nat) (w : W), sv ρ i w = ρ.set i (some w)
  | [], _, _ => rfl
  | x :: r, 0, w => rfl
  | x :: r, n + 1, w => congrArg (x :: ·) (sv_set r n w)
@[reducible] def hv : Rho → Nat → Rho
  | [], _ => []
  | _ :: r, 0 => none :: r
  | x :: r, n + 1 => x :: hv r n
theorem hv_set : ∀ (ρ : Rho) (i : Nat), hv ρ i = ρ.set i none
  | [], _ => rfl
  | x :: r, 0 => rfl
  | x :: r, n + 1 => congrArg (x :: ·) (hv_set r n)
theorem Holds.sv {K : Frag} {H : Hp} {μ : Mu} {σ : L2.St} {ρ : Rho} {v : V} {d : W} (i : Nat) (h : Holds K H μ σ ρ) (hv : Rw K H μ v d) : Holds K H μ (σ.set i (some v)) (Q.sv ρ i d) := by
  rw [sv_set]
  exact h.put i hv
@[reducible] def eV (i : Nat) : FE := fun ρ μ P _ => match gv ρ i with
  | some w => P w μ
  | none => False
@[reducible] def eC (w : W) : FE := fun _ μ P _ => P w μ
section
variable {X : Cx} {E : L2.St → XK}
theorem qe_var {i : Nat} {x : Str} {pos : Pos} (hN : X.N[i]? = some x) (hv : Vis X.env.scope x) (hd : (x == ("__debug__" : Str)) = false := by decide) (hcd : (x == ("__classdict__" : Str)) = false := by decide) : QE X E (.Name x pos) (eV i) := ⟨(pe_var hN hv hd hcd).qimp fun σ H Q h => by
  obtain ⟨ρ, μ, P, XX, hh, hm, hf, hv, hx⟩ := h
  unfold eV at hf
  split at hf
  · rename_i w e
    obtain ⟨v, e1, e2⟩ := hh.2 i w (gv_get e)
    exact ⟨v, e1, hv w μ v H hf (Stp.refl μ H) hm e2⟩
  · exact hf.elim⟩
theorem qe_of {e : Expr} {v : V} {w : W} (h : PE X e (tC v)) (r : ∀ H μ, Rw X.K H μ v w) : QE X E e (eC w) := ⟨h.qimp fun σ H Q h => by
  obtain ⟨ρ, μ, P, XX, hh, hm, hf, hv, hx⟩ := h
  exact hv w μ v H hf (Stp.refl μ H) hm (r H μ)⟩
theorem qe_int {i j pos} : QE X E (.Constant (.int i) j pos) (eC (.int i)) := qe_of pe_int fun _ _ => .int i
theorem qe_bl {i j pos} : QE X E (.Constant (.bool i) j pos) (eC (.bl i)) := qe_of pe_bl fun _ _ => .bl i
theorem qe_non {j pos} : QE X E (.Constant .none j pos) (eC .non) := qe_of pe_non fun _ _ => .non
theorem qe_str {x j pos} : QE X E (.Constant (.str x) j pos) (eC (.str x)) := qe_of pe_str fun _ _ => .str x
/-- a number that the module names -/
theorem qe_gint {i : Int} {x : Str} {pos : Pos} (hg : Gl X x) (h : ∃ t, X.mg x = some (.int i t)) (hdb : (x == ("__debug__" : Str)) = false := by decide) : QE X E (.Name x pos) (eC (.int i)) := qe_of (v := .int i) (pe_glob hg h.choose_spec ⟨_, rfl⟩ hdb) fun _ _ => .int i
/-! ### operations -/
abbrev F2 := W → W → Mu → Po → Prop
abbrev F1 := W → Mu → Po → Prop
@[reducible] def eOp (o : F2) (a b : FE) : FE := fun ρ μ P X => a ρ μ (fun x μ1 => b ρ μ1 (fun y μ2 => o x y μ2 P) X) X
@[reducible] def eUn (o : F1) (a : FE) : FE := fun ρ μ P X => a ρ μ (fun x μ1 => o x μ1 P) X
def rW (K : Frag) (o : F2) : R2 := fun x y H Q => ∃ wx wy μ P, Rw K H μ x wx ∧ Rw K H μ y wy ∧ Mem K H μ ∧ o wx wy μ P ∧ VL K Q μ H P
def rW1 (K : Frag) (o : F1) : V → Hp → VK → Prop := fun x H Q => ∃ wx μ P, Rw K H μ x wx ∧ Mem K H μ ∧ o wx μ P ∧ VL K Q μ H P
theorem opR_imp {X : Cx} {f : Value → Value → Sem Value} {r r' : R2} (h : OpR X f r) (k : ∀ x y H Q, r' x y H Q → r x y H Q) : OpR X f r' := fun pins s σ H x y v u Q I rx ry q => h pins s σ H x y v u Q I rx ry (k x y H Q q)
theorem unR_imp {X : Cx} {f : Value → Sem Value} {r r' : V → Hp → VK → Prop} (h : UnR X f r) (k : ∀ x H Q, r' x H Q → r x H Q) : UnR X f r' := fun pins s σ H x v Q I rx q => h pins s σ H x v Q I rx (k x H Q q)
theorem tE_two {K : Frag} {r : R2} {o : F2} {fa fb : FE} (hr : ∀ x y H Q, rW K o x y H Q → r x y H Q) {σ : L2.St} {H : Hp} {Q : VK} (h : tE K E (eOp o fa fb) σ H Q) : tOp r (tE K E fa) (tE K E fb) σ H Q := by
  obtain ⟨ρ, μ, P, XX, hh, hm, hf, hv, hx⟩ := h
  exact ⟨ρ, μ, _, XX, hh, hm, hf, fun x μ1 v H1 p1 e1 m1 r1 => ⟨ρ, μ1, _, XX, hh.stp e1, m1, p1, fun y μ2 u H2 p2 e2 m2 r2 => hr v u H2 Q ⟨x, y, μ2, P, r1.stp e2, r2, m2, p2, fun w μ' v' H' p e => hv w μ' v' H' p ((e1.trans e2).trans e)⟩, hx.stp e1⟩, hx⟩
theorem qe_op {op : Operator} {o : F2} {a b : Expr} {fa fb : FE} {pos : Pos} (ho : OpR X (binaryOp op) (rW X.K o)) (ha : QE X E a fa) (hb : QE X E b fb) : QE X E (.BinOp a op b pos) (eOp o fa fb) :=
  ⟨(pe_op ho ha.pe hb.pe).qimp fun σ H Q h => tE_two (fun _ _ _ _ h => h) h⟩
theorem qe_un {op : UnaryOp} {o : F1} {a : Expr} {fa : FE} {pos : Pos} (ho : UnR X (unaryOp op) (rW1 X.K o)) (ha : QE X E a fa) : QE X E (.UnaryOp op a pos) (eUn o fa) := ⟨(pe_un ho ha.pe).qimp fun σ H Q h => by
  obtain ⟨ρ, μ, P, XX, hh, hm, hf, hv, hx⟩ := h
  exact ⟨ρ, μ, _, XX, hh, hm, hf, fun x μ1 v H1 p1 e1 m1 r1 => ⟨x, μ1, P, r1, m1, p1, fun w μ' v' H' p e => hv w μ' v' H' p (e1.trans e)⟩, hx⟩⟩
theorem qe_cmp {op : CmpOp} {o : F2} {a b : Expr} {fa fb : FE} {pos : Pos} (ho : OpR X (compareOp op) (rW X.K o)) (ha : QE X E a fa) (hb : QE X E b fb) (hm : behindInMarks op b = false) : QE X E (.Compare a [op] [b] pos) (eOp o fa fb) :=
  ⟨(pe_cmpR ho ha.pe hb.pe hm).qimp fun σ H Q h => tE_two (fun _ _ _ _ h => h) h⟩
/-! tests -/
@[reducible] def wT (w : W) (k : Bool → Prop) : Prop := match w with
  | .bl b => k b
  | _ => False
@[reducible] def cV (a : FE) : FT := fun ρ μ P X => a ρ μ (fun w μ1 => wT w fun b => P b μ1) X
@[reducible] def cAnd (a b : FT) : FT := fun ρ μ P X => a ρ μ (fun c μ1 => if c = true then b ρ μ1 P X else P false μ1) X
@[reducible] def cOr (a b : FT) : FT := fun ρ μ P X => a ρ μ (fun c μ1 => if c = true then P true μ1 else b ρ μ1 P X) X
@[reducible] def cNot (a : FT) : FT := fun ρ μ P X => a ρ μ (fun c μ1 => P (!c) μ1) X
theorem wT_ok {w : W} {k : Bool → Prop} (h : wT w k) : ∃ b, w = .bl b ∧ k b := by
  cases w <;> first | exact h.elim | exact ⟨_, rfl, h⟩
theorem rw_bl {K : Frag} {H : Hp} {μ : Mu} {v : V} {b : Bool} (h : Rw K H μ v (.bl b)) : v = .bl b := by
  cases h
  rfl
theorem tT_of {K : Frag} {fa : FE} {σ : L2.St} {H : Hp} {Q : Bool → Hp → Prop} (h : tT K E (cV fa) σ H Q) : tE K E fa σ H (fun x H1 => ∃ k, x = .bl k ∧ Q k H1) := by
  obtain ⟨ρ, μ, P, XX, hh, hm, hf, hv, hx⟩ := h
  exact ⟨ρ, μ, _, XX, hh, hm, hf, fun x μ1 v H1 p1 e1 m1 r1 => by
    obtain ⟨b, rfl, p⟩ := wT_ok p1
    exact ⟨b, rw_bl r1, hv b μ1 H1 p e1 m1⟩, hx⟩
theorem qt_val {e : Expr} {f : FE} (h : QE X E e f) (he : ∀ whole, isTrue e X.env whole = (do let v ← whole; standAt e.pos; holding [v] (truthy v)) := by intro _; rfl) : QT X E e (cV f) := ⟨(pt_val h.pe he).qimp fun σ H Q h => tT_of h⟩
theorem qt_cmp {op : CmpOp} {o : F2} {a b : Expr} {fa fb : FE} {pos : Pos} (ho : OpR X (compareOp op) (rW X.K o)) (ha : QE X E a fa) (hb : QE X E b fb) (hm : behindInMarks op b = false) : QT X E (.Compare a [op] [b] pos) (cV (eOp o fa fb)) :=
  ⟨(pt_cmpR ho ha.pe hb.pe hm).qimp fun σ H Q h => by
    have h2 := tT_of h
    exact tE_two (fun _ _ _ _ h => h) h2⟩
theorem QW.qt {e : Expr} {f : FT} (h : QW X E e f) : QT X E e f := ⟨h.pw.pt⟩
theorem qw_and1 {a : Expr} {f : FT} {pos : Pos} (h : QT X E a f) : QW X E (.BoolOp .And [a] pos) f := ⟨pw_and1 h.pt⟩
theorem qw_or1 {a : Expr} {f : FT} {pos : Pos} (h : QT X E a f) : QW X E (.BoolOp .Or [a] pos) f := ⟨pw_or1 h.pt⟩
theorem qw_and {a b : Expr} {rest : List Expr} {fa fb : FT} {pos : Pos} (ha : QT X E a fa) (hb : QW X E (.BoolOp .And (b :: rest) pos) fb) : QW X E (.BoolOp .And (a :: b :: rest) pos) (cAnd fa fb) := ⟨(pw_and ha.pt hb.pw).qimp fun σ H Q h => by
  obtain ⟨ρ, μ, P, XX, hh, hm, hf, hv, hx⟩ := h
  refine ⟨ρ, μ, _, XX, hh, hm, hf, fun c μ1 H1 p1 e1 m1 => ?_, hx⟩
  cases c with
  | true => exact iteT ⟨ρ, μ1, P, XX, hh.stp e1, m1, (if_pos rfl).mp p1, fun b μ' H' p e => hv b μ' H' p (e1.trans e), hx.stp e1⟩
  | false => exact iteF (hv false μ1 H1 ((if_neg (by decide)).mp p1) e1 m1)⟩
theorem qw_or {a b : Expr} {rest : List Expr} {fa fb : FT} {pos : Pos} (ha : QT X E a fa) (hb : QW X E (.BoolOp .Or (b :: rest) pos) fb) : QW X E (.BoolOp .Or (a :: b :: rest) pos) (cOr fa fb) := ⟨(pw_or ha.pt hb.pw).qimp fun σ H Q h => by
  obtain ⟨ρ, μ, P, XX, hh, hm, hf, hv, hx⟩ := h
  refine ⟨ρ, μ, _, XX, hh, hm, hf, fun c μ1 H1 p1 e1 m1 => ?_, hx⟩
  cases c with
  | true => exact iteT (hv true μ1 H1 ((if_pos rfl).mp p1) e1 m1)
  | false => exact iteF ⟨ρ, μ1, P, XX, hh.stp e1, m1, (if_neg (by decide)).mp p1, fun b μ' H' p e => hv b μ' H' p (e1.trans e), hx.stp e1⟩⟩
theorem qt_not {a : Expr} {fa : FT} {pos : Pos} (ha : QT X E a fa) : QT X E (.UnaryOp .Not a pos) (cNot fa) := ⟨(pt_not ha.pt).qimp fun σ H Q h => by
  obtain ⟨ρ, μ, P, XX, hh, hm, hf, hv, hx⟩ := h
  exact ⟨ρ, μ, _, XX, hh, hm, hf, fun c μ1 H1 p1 e1 m1 => hv (!c) μ1 H1 p1 e1 m1, hx⟩⟩
@[reducible] def eIf (c : FT) (a b : FE) : FE := fun ρ μ P X => c ρ μ (fun c μ1 => if c = true then a ρ μ1 P X else b ρ μ1 P X) X
theorem qe_if {c a b : Expr} {fc : FT} {fa fb : FE} {pos : Pos} (hc : QT X E c fc) (ha : QE X E a fa) (hb : QE X E b fb) : QE X E (.IfExp c a b pos) (eIf fc fa fb) := ⟨(pe_ifExp hc.pt ha.pe hb.pe).qimp fun σ H Q h => by
  obtain ⟨ρ, μ, P, XX, hh, hm, hf, hv, hx⟩ := h
  refine ⟨ρ, μ, _, XX, hh, hm, hf, fun c μ1 H1 p1 e1 m1 => ?_, hx⟩
  cases c with
  | true => exact iteT ⟨ρ, μ1, P, XX, hh.stp e1, m1, (if_pos rfl).mp p1, fun w μ' v H' p e => hv w μ' v H' p (e1.trans e), hx.stp e1⟩
  | false => exact iteF ⟨ρ, μ1, P, XX, hh.stp e1, m1, (if_neg (by decide)).mp p1, fun w μ' v H' p e => hv w μ' v H' p (e1.trans e), hx.stp e1⟩⟩
/-! and, or, not as values -/
@[reducible] def eAnd (a b : FE) : FE := fun ρ μ P X => a ρ μ (fun w μ1 => wT w fun c => if c = true then b ρ μ1 P X else P (.bl false) μ1) X
@[reducible] def eOr (a b : FE) : FE := fun ρ μ P X => a ρ μ (fun w μ1 => wT w fun c => if c = true then P (.bl true) μ1 else b ρ μ1 P X) X
@[reducible] def eNot (a : FE) : FE := fun ρ μ P X => a ρ μ (fun w μ1 => wT w fun c => P (.bl (!c)) μ1) X
theorem qe_one {op : BoolOp} {a : Expr} {f : FE} {pos : Pos} (h : QE X E a f) : QE X E (.BoolOp op [a] pos) f := ⟨pe_one h.pe⟩
theorem qe_and {a b : Expr} {rest : List Expr} {fa fb : FE} {pos : Pos} (ha : QE X E a fa) (hb : QE X E (.BoolOp .And (b :: rest) pos) fb) : QE X E (.BoolOp .And (a :: b :: rest) pos) (eAnd fa fb) := ⟨(pe_and ha.pe hb.pe).qimp fun σ H Q h => by
  obtain ⟨ρ, μ, P, XX, hh, hm, hf, hv, hx⟩ := h
  refine ⟨ρ, μ, _, XX, hh, hm, hf, fun c μ1 v H1 p1 e1 m1 r1 => ?_, hx⟩
  obtain ⟨b, rfl, p⟩ := wT_ok p1
  refine ⟨b, rw_bl r1, ?_⟩
  cases b with
  | true => exact iteT ⟨ρ, μ1, P, XX, hh.stp e1, m1, (if_pos rfl).mp p, fun w μ' v H' p e => hv w μ' v H' p (e1.trans e), hx.stp e1⟩
  | false => exact iteF (hv _ μ1 _ H1 ((if_neg (by decide)).mp p) e1 m1 (.bl _))⟩
theorem qe_or {a b : Expr} {rest : List Expr} {fa fb : FE} {pos : Pos} (ha : QE X E a fa) (hb : QE X E (.BoolOp .Or (b :: rest) pos) fb) : QE X E (.BoolOp .Or (a :: b :: rest) pos) (eOr fa fb) := ⟨(pe_or ha.pe hb.pe).qimp fun σ H Q h => by
  obtain ⟨ρ, μ, P, XX, hh, hm, hf, hv, hx⟩ := h
  refine ⟨ρ, μ, _, XX, hh, hm, hf, fun c μ1 v H1 p1 e1 m1 r1 => ?_, hx⟩
  obtain ⟨b, rfl, p⟩ := wT_ok p1
  refine ⟨b, rw_bl r1, ?_⟩
  cases b with
  | true => exact iteT (hv _ μ1 _ H1 ((if_pos rfl).mp p) e1 m1 (.bl _))
  | false => exact iteF ⟨ρ, μ1, P, XX, hh.stp e1, m1, (if_neg (by decide)).mp p, fun w μ' v H' p e => hv w μ' v H' p (e1.trans e), hx.stp e1⟩⟩
theorem qe_not {a : Expr} {fa : FE} {pos : Pos} (ha : QE X E a fa) : QE X E (.UnaryOp .Not a pos) (eNot fa) := ⟨(pe_not ha.pe).qimp fun σ H Q h => by
  obtain ⟨ρ, μ, P, XX, hh, hm, hf, hv, hx⟩ := h
  refine ⟨ρ, μ, _, XX, hh, hm, hf, fun c μ1 v H1 p1 e1 m1 r1 => ?_, hx⟩
  obtain ⟨b, rfl, p⟩ := wT_ok p1
  exact ⟨b, rw_bl r1, hv _ μ1 _ H1 p e1 m1 (.bl _)⟩⟩
/-- a < b < c -/
@[reducible] def eChain (o o' : F2) (a b c : FE) : FE := fun ρ μ P X => a ρ μ (fun x μ1 => b ρ μ1 (fun y μ2 => o x y μ2 (fun z μ3 => wT z fun k => if k = true then c ρ μ3 (fun u μ4 => o' y u μ4 P) X else P (.bl false) μ3)) X) X
theorem tE_chain {K : Frag} {o o' : F2} {fa fb fc : FE} {σ : L2.St} {H : Hp} {Q : VK} (h : tE K E (eChain o o' fa fb fc) σ H Q) : tChain (rW K o) (rW K o') (tE K E fa) (tE K E fb) (tE K E fc) σ H Q := by
  obtain ⟨ρ, μ, P, XX, hh, hm, hf, hv, hx⟩ := h
  refine ⟨ρ, μ, _, XX, hh, hm, hf, fun x μ1 v H1 p1 e1 m1 r1 => ⟨ρ, μ1, _, XX, hh.stp e1, m1, p1, fun y μ2 u H2 p2 e2 m2 r2 => ⟨x, y, μ2, _, r1.stp e2, r2, m2, p2, fun z μ3 v3 H3 p3 e3 m3 r3 => ?_⟩, hx.stp e1⟩, hx⟩
  obtain ⟨b, rfl, p⟩ := wT_ok p3
  refine ⟨b, rw_bl r3, ?_⟩
  have e13 := (e1.trans e2).trans e3
  cases b with
  | true => exact iteT ⟨ρ, μ3, _, XX, hh.stp e13, m3, (if_pos rfl).mp p, fun w μ4 v4 H4 p4 e4 m4 r4 => ⟨y, w, μ4, P, r2.stp (e3.trans e4), r4, m4, p4, fun w μ' v' H' p e => hv w μ' v' H' p ((e13.trans e4).trans e)⟩, hx.stp e13⟩
  | false => exact iteF (hv _ μ3 _ H3 ((if_neg (by decide)).mp p) e13 m3 (.bl _))
theorem qe_chain {op op' : CmpOp} {o o' : F2} {a b c : Expr} {fa fb fc : FE} {pos : Pos} (ho : OpR X (compareOp op) (rW X.K o)) (ho' : OpR X (compareOp op') (rW X.K o')) (ha : QE X E a fa) (hb : QE X E b fb) (hc : QE X E c fc) (k : PE X (.Compare a [op, op'] [b, c] pos) (tChain (rW X.K o) (rW X.K o') (tE X.K E fa) (tE X.K E fb) (tE X.K E fc))) : QE X E (.Compare a [op, op'] [b, c] pos) (eChain o o' fa fb fc) := ⟨k.qimp fun σ H Q h => tE_chain h⟩
/-! ### arguments, tuples, lists -/
@[reducible] def aNil : FA := fun _ μ P _ => P [] μ
@[reducible] def aCons (a : FE) (r : FA) : FA := fun ρ μ P X => a ρ μ (fun w μ1 => r ρ μ1 (fun ws μ2 => P (w :: ws) μ2) X) X
theorem qa_nil : QA X E [] aNil := ⟨(pa_nil (X := X)).qimp fun σ H Q h => by
  obtain ⟨ρ, μ, P, XX, hh, hm, hf, hv, hx⟩ := h
  exact hv [] μ [] H hf (Stp.refl μ H) hm .nil⟩
theorem qa_cons {e : Expr} {es : List Expr} {fa : FE} {fr : FA} (ha : QE X E e fa) (hr : QA X E es fr) (hs : starEach (e :: es) X.env = (false, eval e X.env) :: starEach es X.env := by rfl) : QA X E (e :: es) (aCons fa fr) := ⟨(pa_cons ha.pe hr.pa hs).qimp fun σ H Q h => by
  obtain ⟨ρ, μ, P, XX, hh, hm, hf, hv, hx⟩ := h
  exact ⟨ρ, μ, _, XX, hh, hm, hf, fun x μ1 v H1 p1 e1 m1 r1 => ⟨ρ, μ1, _, XX, hh.stp e1, m1, p1, fun ws μ2 vs H2 p2 e2 m2 r2 => hv _ μ2 _ H2 p2 (e1.trans e2) m2 (.cons (r1.stp e2) r2), hx.stp e1⟩, hx⟩⟩
@[reducible] def eTup (a : FA) : FE := fun ρ μ P X => a ρ μ (fun ws μ1 => ws.length ≤ 100000 ∧ P (.tup ws) μ1) X
/-- [a, b]: a value (V), or tracked (R) -/
@[reducible] def eLV (a : FA) : FE := fun ρ μ P X => a ρ μ (fun ws μ1 => ws.length ≤ 100000 ∧ P (.lst ws) μ1) X
theorem sz_of2 {n m : Nat} (h : n ≤ 100000) (e : m = n) : m ≤ sizeLine := by
  rw [e]
  exact sz_of h
theorem new_tup {K : Frag} {H : Hp} {μ : Mu} {p : Addr} {vs : List V} {ws : List W} (m : Mem K H μ) (hp : H p = none) (r : RwAll K H μ vs ws) : Rw K (upd H p (.tup vs)) μ (.ref p) (.tup ws) := .tup (.inl ⟨upd_same, m.free hp⟩) (r.stp (Stp.new hp))
theorem new_lst {K : Frag} {H : Hp} {μ : Mu} {p : Addr} {vs : List V} {ws : List W} (m : Mem K H μ) (hp : H p = none) (r : RwAll K H μ vs ws) : Rw K (upd H p (.lst vs)) μ (.ref p) (.lst ws) := .lst ⟨upd_same, m.free hp⟩ (r.stp (Stp.new hp))
theorem new_ls {K : Frag} {H : Hp} {μ : Mu} {p : Addr} {vs : List V} {ws : List W} (m : Mem K H μ) (hp : H p = none) (r : RwAll K H μ vs ws) : Mem K (upd H p (.lst vs)) (mset μ p (.ls ws)) := m.put (Stp.newT hp) ⟨vs, upd_same, r.stp (Stp.newT hp)⟩
theorem qe_tup {es : List Expr} {f : FA} {x1} {pos : Pos} (h : QA X E es f) : QE X E (.Tuple es x1 pos) (eTup f) := ⟨(pe_tup h.pa).qimp fun σ H Q h => by
  obtain ⟨ρ, μ, P, XX, hh, hm, hf, hv, hx⟩ := h
  exact ⟨ρ, μ, _, XX, hh, hm, hf, fun ws μ1 vs H1 p1 e1 m1 r1 => ⟨sz_of2 p1.1 r1.len, fun p hp => hv _ μ1 _ _ p1.2 (e1.trans (Stp.new hp)) (m1.new hp) (new_tup m1 hp r1)⟩, hx⟩⟩
theorem qe_lV {es : List Expr} {f : FA} {pos : Pos} (h : QA X E es f) : QE X E (.List es pos) (eLV f) := ⟨(pe_lst h.pa).qimp fun σ H Q h => by
  obtain ⟨ρ, μ, P, XX, hh, hm, hf, hv, hx⟩ := h
  exact ⟨ρ, μ, _, XX, hh, hm, hf, fun ws μ1 vs H1 p1 e1 m1 r1 => ⟨sz_of2 p1.1 r1.len, fun p hp => hv _ μ1 _ _ p1.2 (e1.trans (Stp.new hp)) (m1.new hp) (new_lst m1 hp r1)⟩, hx⟩⟩
end
/-! ### statements -/
@[reducible] def sNx : FS := fun ρ μ N => N.nx ρ μ
@[reducible] def sSeq (a b : FS) : FS := fun ρ μ N => a ρ μ { N with nx := fun ρ' μ' => b ρ' μ' N }
@[reducible] def sEx (e : FE) : FS := fun ρ μ N => e ρ μ (fun _ μ1 => N.nx ρ μ1) (N.ex ρ)
@[reducible] def sRt (e : FE) : FS := fun ρ μ N => e ρ μ (fun w μ1 => N.rt w μ1) (N.ex ρ)
@[reducible] def sIf (c : FT) (a b : FS) : FS := fun ρ μ N => c ρ μ (fun d μ1 => if d = true then a ρ μ1 N else b ρ μ1 N) (N.ex ρ)
@[reducible] def sSet (i : Nat) (e : FE) : FS := fun ρ μ N => e ρ μ (fun w μ1 => N.nx (sv ρ i w) μ1) (N.ex ρ)
section
variable {X : Cx} {E : L2.St → XK}
theorem qss_nil : QSs X E [] sNx := ⟨(pss_nil (X := X)).qimp fun D σ H h => by
  obtain ⟨ρ, μ, N, hh, hm, hf, l⟩ := h
  exact l.nx ρ μ σ H hf (Stp.refl μ H) hm hh⟩
theorem qss_one {st : Stmt} {f : FS} (h : QS X E st f) : QSs X E [st] f := ⟨pss_one h.ps⟩
theorem EL.seq {K : Frag} {D : Ends} {μ : Mu} {H : Hp} {N : En} {t : FS} {nx : Rho → Mu → Prop} (l : EL K E D μ H N) (h : ∀ ρ' μ', nx ρ' μ' → t ρ' μ' N) : EL K E { D with nx := tS K E t D } μ H { N with nx := nx } :=
  ⟨fun ρ' μ' σ' H' n e m hh => ⟨ρ', μ', N, hh, m, h ρ' μ' n, l.stp e⟩, l.rt, l.bk, l.ct, l.ex⟩
theorem qss_cons {st : Stmt} {r : List Stmt} {f g : FS} (h : QS X E st f) (hr : QSs X E r g) : QSs X E (st :: r) (sSeq f g) := ⟨(pss_cons h.ps hr.pss).qimp fun D σ H h => by
  obtain ⟨ρ, μ, N, hh, hm, hf, l⟩ := h
  exact ⟨ρ, μ, _, hh, hm, hf, l.seq fun _ _ n => n⟩⟩
theorem qs_pass {pos : Pos} : QS X E (.Pass pos) sNx := ⟨(ps_pass (X := X)).qimp fun D σ H h => by
  obtain ⟨ρ, μ, N, hh, hm, hf, l⟩ := h
  exact l.nx ρ μ σ H hf (Stp.refl μ H) hm hh⟩
theorem qs_expr {e : Expr} {f : FE} {pos : Pos} (h : QE X E e f) (hs : swapsWith e none pos.line X.env = pure false := by rfl) : QS X E (.Expr e pos) (sEx f) := ⟨(ps_expr h.pe hs).qimp fun D σ H h => by
  obtain ⟨ρ, μ, N, hh, hm, hf, l⟩ := h
  exact ⟨ρ, μ, _, _, hh, hm, hf, fun w μ1 v H1 p1 e1 m1 r1 => l.nx ρ μ1 σ H1 p1 e1 m1 (hh.stp e1), l.xl hh⟩⟩
theorem qs_ret {e : Expr} {f : FE} {pos : Pos} (h : QE X E e f) : QS X E (.Return (some e) pos) (sRt f) := ⟨(ps_ret h.pe).qimp fun D σ H h => by
  obtain ⟨ρ, μ, N, hh, hm, hf, l⟩ := h
  exact ⟨ρ, μ, _, _, hh, hm, hf, fun w μ1 v H1 p1 e1 m1 r1 => l.rt w μ1 v H1 p1 e1 m1 r1, l.xl hh⟩⟩
theorem qs_if {c : Expr} {a b : List Stmt} {fc : FT} {fa fb : FS} {pos : Pos} (hc : QT X E c fc) (ha : QSs X E a fa) (hb : QSs X E b fb) : QS X E (.If c a b pos) (sIf fc fa fb) := ⟨(ps_if hc.pt ha.pss hb.pss).qimp fun D σ H h => by
  obtain ⟨ρ, μ, N, hh, hm, hf, l⟩ := h
  refine ⟨ρ, μ, _, _, hh, hm, hf, fun d μ1 H1 p1 e1 m1 => ?_, l.xl hh⟩
  cases d with
  | true => exact iteT ⟨ρ, μ1, N, hh.stp e1, m1, (if_pos rfl).mp p1, l.stp e1⟩
  | false => exact iteF ⟨ρ, μ1, N, hh.stp e1, m1, (if_neg (by decide)).mp p1, l.stp e1⟩⟩
theorem qs_set {i : Nat} {x : Str} {e : Expr} {f : FE} {pos pos' : Pos} (hN : X.N.Nodup) (hi : X.N[i]? = some x) (hx : Loc X.env.scope x) (h : QE X E e f) (hs : swapsWith e (some (.Name x pos')) pos.line X.env = pure false := by rfl) (hf : X.fn x = true ∨ X.env.scope.names.lookup x = some .local := by first | exact .inl rfl | exact .inr rfl | assumption) :
    QS X E (.Assign [.Name x pos'] e pos) (sSet i f) := ⟨(ps_set hN hi hx h.pe hs hf).qimp fun D σ H h => by
  obtain ⟨ρ, μ, N, hh, hm, hf, l⟩ := h
  exact ⟨ρ, μ, _, _, hh, hm, hf, fun w μ1 v H1 p1 e1 m1 r1 => l.nx _ μ1 _ H1 p1 e1 m1 ((hh.stp e1).sv i r1), l.xl hh⟩⟩
/-! targets -/
abbrev FG := W → Rho → Mu → (Rho → Mu → Prop) → Prop
abbrev FGs := List W → Rho → Mu → (Rho → Mu → Prop) → Prop
def tGt (K : Frag) (g : FG) : TG := fun v σ H Q => ∃ w ρ μ P, Rw K H μ v w ∧ Holds K H μ σ ρ ∧ Mem K H μ ∧ g w ρ μ P ∧ ∀ ρ' μ' σ' H', P ρ' μ' → Stp μ H μ' H' → Mem K H' μ' → Holds K H' μ' σ' ρ' → Q σ' H'
def tGts (K : Frag) (g : FGs) : TGs := fun vs σ H Q => ∃ ws ρ μ P, RwAll K H μ vs ws ∧ Holds K H μ σ ρ ∧ Mem K H μ ∧ g ws ρ μ P ∧ ∀ ρ' μ' σ' H', P ρ' μ' → Stp μ H μ' H' → Mem K H' μ' → Holds K H' μ' σ' ρ' → Q σ' H'
structure QG (X : Cx) (e : Expr) (g : FG) : Prop where
  pg : PG X e (tGt X.K g)
structure QGs (X : Cx) (es : List Expr) (g : FGs) : Prop where
  pgs : PGs X es (tGts X.K g)
@[reducible] def gN (i : Nat) : FG := fun w ρ μ P => P (sv ρ i w) μ
@[reducible] def gsNil : FGs := fun ws ρ μ P => match ws with
  | [] => P ρ μ
  | _ => False
@[reducible] def gsCons (g : FG) (r : FGs) : FGs := fun ws ρ μ P => match ws with
  | w :: us => g w ρ μ fun ρ' μ' => r us ρ' μ' P
  | [] => False
@[reducible] def gT (n : Nat) (r : FGs) : FG := fun w ρ μ P => match w with
  | .tup ws => ws.length = n ∧ r ws ρ μ P
  | _ => False
theorem _root_.L2.PG.qimp {X : Cx} {e : Expr} {t t' : TG} (h : PG X e t) (k : ∀ v σ H Q, t' v σ H Q → t v σ H Q) : PG X e t' := ⟨fun pins s σ H v u Q I r q => h.run pins s σ H v u Q I r (k v σ H Q q)⟩
theorem _root_.L2.PGs.qimp {X : Cx} {e : List Expr} {t t' : TGs} (h : PGs X e t) (k : ∀ v σ H Q, t' v σ H Q → t v σ H Q) : PGs X e t' := ⟨fun pins s σ H v u Q I r q => h.run pins s σ H v u Q I r (k v σ H Q q)⟩
theorem qg_name {i : Nat} {x : Str} {pos : Pos} (hN : X.N.Nodup) (hi : X.N[i]? = some x) (hx : Loc X.env.scope x) (hf : X.fn x = true ∨ X.env.scope.names.lookup x = some .local := by first | exact .inl rfl | exact .inr rfl | assumption) : QG X (.Name x pos) (gN i) := ⟨(pg_name hN hi hx hf).qimp fun v σ H Q h => by
  obtain ⟨w, ρ, μ, P, r, hh, hm, hg, q⟩ := h
  exact q _ μ _ H hg (Stp.refl μ H) hm (hh.sv i r)⟩
theorem qgs_nil : QGs X [] gsNil := ⟨(pgs_nil (X := X)).qimp fun vs σ H Q h => by
  obtain ⟨ws, ρ, μ, P, r, hh, hm, hg, q⟩ := h
  cases r with
  | nil => exact ⟨rfl, q ρ μ σ H hg (Stp.refl μ H) hm hh⟩
  | cons _ _ => exact hg.elim⟩
theorem qgs_cons {e : Expr} {es : List Expr} {g : FG} {r : FGs} (h1 : QG X e g) (h2 : QGs X es r)
    (hs : (assignEach (e :: es) X.env).map (·.2) = assign e X.env :: (assignEach es X.env).map (·.2) := by rfl) : QGs X (e :: es) (gsCons g r) := ⟨(pgs_cons h1.pg h2.pgs hs).qimp fun vs σ H Q h => by
  obtain ⟨ws, ρ, μ, P, r, hh, hm, hg, q⟩ := h
  cases r with
  | nil => exact hg.elim
  | @cons v vr w wr r rr => exact ⟨v, vr, rfl, w, ρ, μ, _, r, hh, hm, hg, fun ρ1 μ1 σ1 H1 p1 e1 m1 h1 => ⟨wr, ρ1, μ1, P, rr.stp e1, h1, m1, p1, fun ρ' μ' σ' H' p e => q ρ' μ' σ' H' p (e1.trans e)⟩⟩⟩
theorem tup_sq {K : Frag} {H : Hp} {μ : Mu} {a : Addr} {vs : List V} (h : TupAt K H μ a vs) : SqT K H a vs := by
  rcases h with h | h
  · exact .inl (.inl h.1)
  · exact .inr h
theorem qg_tup {es : List Expr} {k : Nat} {g : FGs} {n : Nat} {pos : Pos} (hc : X.calm = true) (h : QGs X es g)
    (hn : (assignEach es X.env).length = n := by rfl) (hst : (assignEach es X.env).findIdx? (·.1) = none := by rfl) : QG X (.Tuple es k pos) (gT n g) := ⟨(pg_tup hc h.pgs hn hst).qimp fun v σ H Q h => by
  obtain ⟨w, ρ, μ, P, r, hh, hm, hg, q⟩ := h
  cases r with
  | tup hq hs => exact ⟨_, _, rfl, tup_sq hq, hs.len.trans hg.1, _, ρ, μ, P, hs, hh, hm, hg.2, q⟩
  | _ => exact hg.elim⟩
@[reducible] def sAsg (e : FE) (g : FG) : FS := fun ρ μ N => e ρ μ (fun w μ1 => g w ρ μ1 N.nx) (N.ex ρ)
theorem qs_asg {tg e : Expr} {f : FE} {g : FG} {pos : Pos} (he : QE X E e f) (hg : QG X tg g) (hs : swapsWithSole [tg] e pos.line X.env = pure false := by rfl) (hw : swappedStores [tg] e X.env = pure none := by rfl)
    (h1 : (assignEach [tg] X.env).map (·.2) = [assign tg X.env] := by rfl) : QS X E (.Assign [tg] e pos) (sAsg f g) := ⟨(ps_asg he.pe hg.pg hs hw h1).qimp fun D σ H h => by
  obtain ⟨ρ, μ, N, hh, hm, hf, l⟩ := h
  exact ⟨ρ, μ, _, _, hh, hm, hf, fun w μ1 v H1 p1 e1 m1 r1 => ⟨w, ρ, μ1, _, r1, hh.stp e1, m1, p1, fun ρ' μ' σ' H' p e => l.nx ρ' μ' σ' H' p (e1.trans e)⟩, l.xl hh⟩⟩
end
end Q
namespace Q
open PySem L2 Evl
/-! == and != of data: atoms, tuples, lists, nested -/
mutual
def eqW : W → W → Bool
  | .non, .non => true
  | .bl a, .bl b => a == b
  | .bl a, .int j => (if a then 1 else 0) == j
  | .int i, .bl b => i == (if b then 1 else 0)
  | .int i, .int j => i == j
  | .str x, .str y => x == y
  | .tup xs, .tup ys => eqWs xs ys
  | .lst xs, .lst ys => eqWs xs ys
  | _, _ => false
def eqWs : List W → List W → Bool
  | [], [] => true
  | x :: xs, y :: ys => eqW x y && eqWs xs ys
  | _, _ => false
end
mutual
/-- data of at most n levels -/
def isD : Nat → W → Bool
  | _, .non | _, .bl _ | _, .int _ | _, .str _ => true
  | 0, _ => false
  | n + 1, .tup ws => isDs n ws
  | n + 1, .lst ws => isDs n ws
  | _, _ => false
def isDs : Nat → List W → Bool
  | _, [] => true
  | n, w :: ws => isD n w && isDs n ws
end
mutual
inductive Dq (K : Frag) (H : Hp) : V → W → Prop
  | non : Dq K H .non .non
  | bl (b : Bool) : Dq K H (.bl b) (.bl b)
  | int (i : Int) : Dq K H (.int i) (.int i)
  | str (x : Str) : Dq K H (.str x) (.str x)
  | tup {a : Addr} {vs : List V} {ws : List W} : SqT K H a vs → DqAll K H vs ws → Dq K H (.ref a) (.tup ws)
  | lst {a : Addr} {vs : List V} {ws : List W} : SqL K H a vs → DqAll K H vs ws → Dq K H (.ref a) (.lst ws)
inductive DqAll (K : Frag) (H : Hp) : List V → List W → Prop
  | nil : DqAll K H [] []
  | cons {v : V} {vs : List V} {w : W} {ws : List W} : Dq K H v w → DqAll K H vs ws → DqAll K H (v :: vs) (w :: ws)
end
mutual
theorem dq_of {K : Frag} {H : Hp} {μ : Mu} : ∀ {n : Nat} {v : V} {w : W}, Rw K H μ v w → isD n w = true → Dq K H v w
  | _, _, _, .non, _ => .non
  | _, _, _, .bl b, _ => .bl b
  | _, _, _, .int i, _ => .int i
  | _, _, _, .str x, _ => .str x
  | 0, _, _, .tup _ _, d => by cases d
  | n + 1, _, _, .tup h hs, d => .tup (tup_sq h) (dqs_of hs d)
  | 0, _, _, .lst _ _, d => by cases d
  | n + 1, _, _, .lst h hs, d => .lst (.inl (.inl h.1)) (dqs_of hs d)
  | 0, _, _, .ref _, d => by cases d
  | n + 1, _, _, .ref _, d => by cases d
  | 0, _, _, .fn _, d => by cases d
  | n + 1, _, _, .fn _, d => by cases d
  | 0, _, _, .rol _ _, d => by cases d
  | n + 1, _, _, .rol _ _, d => by cases d
  | 0, _, _, .exc, d => by cases d
  | n + 1, _, _, .exc, d => by cases d
  | 0, _, _, .excf _ _ _, d => by cases d
  | n + 1, _, _, .excf _ _ _, d => by cases d
theorem dqs_of {K : Frag} {H : Hp} {μ : Mu} : ∀ {n : Nat} {vs : List V} {ws : List W}, RwAll K H μ vs ws → isDs n ws = true → DqAll K H vs ws
  | _, _, _, .nil, _ => .nil
  | n, _, _, .cons h hs, d => .cons (dq_of h (Bool.and_eq_true_iff.mp d).1) (dqs_of hs (Bool.and_eq_true_iff.mp d).2)
end
mutual
theorem eqW_refl : ∀ (n : Nat) (w : W), isD n w = true → eqW w w = true
  | _, .non, _ => rfl
  | _, .bl b, _ => by simp [eqW]
  | _, .int i, _ => by simp [eqW]
  | _, .str x, _ => by simp [eqW]
  | 0, .tup _, d => by cases d
  | n + 1, .tup ws, d => eqWs_refl n ws d
  | 0, .lst _, d => by cases d
  | n + 1, .lst ws, d => eqWs_refl n ws d
  | 0, .rol _, d => by cases d
  | n + 1, .rol _, d => by cases d
  | 0, .ref _, d => by cases d
  | n + 1, .ref _, d => by cases d
  | 0, .fn _, d => by cases d
  | n + 1, .fn _, d => by cases d
  | 0, .exc .., d => by cases d
  | n + 1, .exc .., d => by cases d
theorem eqWs_refl : ∀ (n : Nat) (ws : List W), isDs n ws = true → eqWs ws ws = true
  | _, [], _ => rfl
  | n, w :: ws, d => by
    have d := Bool.and_eq_true_iff.mp d
    show (eqW w w && eqWs ws ws) = true
    rw [eqW_refl n w d.1, eqWs_refl n ws d.2]
    rfl
end
theorem DqAll.len {K : Frag} {H : Hp} : ∀ {vs : List V} {ws : List W}, DqAll K H vs ws → vs.length = ws.length
  | _, _, .nil => rfl
  | _, _, .cons _ hs => congrArg Nat.succ hs.len
/-- the answers item by item -/
def eqAtW (xs ys : List W) (j : Nat) : Bool := match xs[j]?, ys[j]? with
  | some x, some y => eqW x y
  | _, _ => true
theorem eqWs_all : ∀ (xs ys : List W), eqWs xs ys = ((List.range (min xs.length ys.length)).all (eqAtW xs ys) && xs.length == ys.length)
  | [], [] => by simp [eqWs]
  | [], y :: ys => by simp [eqWs]
  | x :: xs, [] => by simp [eqWs]
  | x :: xs, y :: ys => by
    have e : min (x :: xs).length (y :: ys).length = min xs.length ys.length + 1 := by simp only [List.length_cons]; omega
    rw [e, List.range_succ_eq_map, List.all_cons, List.all_map]
    show (eqW x y && eqWs xs ys) = _
    rw [eqWs_all xs ys]
    have e2 : (eqAtW (x :: xs) (y :: ys) ∘ Nat.succ) = eqAtW xs ys := by
      funext j
      simp [eqAtW]
    rw [e2]
    simp [eqAtW, Bool.and_assoc]
section
variable {X : Cx} {pins : List (Addr × Obj)} {σ : St} {H : Hp} {s : Shared}
theorem sq_inj (I : Inv X pins σ H s) {a : Addr} {xs ys : List V} (h : SqL X.K H a xs) (h' : SqL X.K H a ys) : xs = ys := by
  rcases h with h | ⟨o, its, n, hk, hc, hd, hs, hz, r⟩
  · rcases h' with h' | ⟨o', its', n', hk', hc', hd', hs', hz', r'⟩
    · rcases h with h | ⟨q, h⟩ <;> rcases h' with h' | ⟨q', h'⟩ <;> (rw [h] at h'; first | cases h' | skip) <;> rfl
    · obtain ⟨q, hq⟩ : ∃ q, H a = some q := by
        rcases h with h | ⟨q, h⟩
        · exact ⟨_, h⟩
        · exact ⟨_, h⟩
      have k1 := I.ok.mod.kin a o' hk'
      rw [(I.bs a o' k1).2] at hq
      cases hq
  · rcases h' with h' | ⟨o', its', n', hk', hc', hd', hs', hz', r'⟩
    · obtain ⟨q, hq⟩ : ∃ q, H a = some q := by
        rcases h' with h' | ⟨q, h'⟩
        · exact ⟨_, h'⟩
        · exact ⟨_, h'⟩
      have k1 := I.ok.mod.kin a o hk
      rw [(I.bs a o k1).2] at hq
      cases hq
    · rw [hk] at hk'
      cases hk'
      rw [hs] at hs'
      cases hs'
      have f : ∀ {us : List Value} {xs ys : List V}, Vals xs us → Vals ys us → xs = ys := by
        intro us
        induction us with
        | nil =>
          intro xs ys h1 h2
          cases h1
          cases h2
          rfl
        | cons u us ih =>
          intro xs ys h1 h2
          cases h1 with
          | cons p q =>
            cases h2 with
            | cons p' q' =>
              rw [ih q q']
              congr 1
              rename_i v _ v' _
              cases v <;> cases v' <;> simp [RelV] at p p' <;> first
                | rfl
                | (subst p; simp at p'; done)
                | (obtain ⟨t, rfl⟩ := p; simp at p'; done)
                | (obtain ⟨t, rfl⟩ := p; simp at p'; rw [p'])
                | (subst p; simp at p'; rw [p'])
                | (subst p; obtain ⟨t, h⟩ := p'; cases h)
      exact f r r'
mutual
theorem dq_inj (I : Inv X pins σ H s) : ∀ {v : V} {x y : W}, Dq X.K H v x → Dq X.K H v y → x = y
  | _, _, _, .non, h => by cases h; rfl
  | _, _, _, .bl b, h => by cases h; rfl
  | _, _, _, .int i, h => by cases h; rfl
  | _, _, _, .str x, h => by cases h; rfl
  | _, _, _, .tup q hs, h => by
    cases h with
    | tup q' hs' =>
      rw [I.tuple_inj q q'] at hs
      rw [dqs_inj I hs hs']
    | lst q' hs' =>
      obtain ⟨its, r, ⟨o, e, c, n, d⟩, z⟩ := I.tuple q
      obtain ⟨its', r', ⟨o', n', e', c', d'⟩, z'⟩ := I.list q'
      rw [e] at e'
      cases e'
      exact absurd (c.symm.trans c') (by decide)
  | _, _, _, .lst q hs, h => by
    cases h with
    | lst q' hs' =>
      rw [sq_inj I q q'] at hs
      rw [dqs_inj I hs hs']
    | tup q' hs' =>
      obtain ⟨its, r, ⟨o, e, c, n, d⟩, z⟩ := I.tuple q'
      obtain ⟨its', r', ⟨o', n', e', c', d'⟩, z'⟩ := I.list q
      rw [e] at e'
      cases e'
      exact absurd (c.symm.trans c') (by decide)
theorem dqs_inj (I : Inv X pins σ H s) : ∀ {vs : List V} {xs ys : List W}, DqAll X.K H vs xs → DqAll X.K H vs ys → xs = ys
  | _, _, _, .nil, h => by cases h; rfl
  | _, _, _, .cons h hs, g => by
    cases g with
    | cons g gs => rw [dq_inj I h g, dqs_inj I hs gs]
end
theorem val_at : ∀ {vs : List V} {us : List Value} (j : Nat) (h : j < us.length), Vals vs us → ∃ v, vs[j]? = some v ∧ RelV v us[j]
  | _, _, j, h, .nil => absurd h (Nat.not_lt_zero _)
  | _, _, 0, _, .cons r _ => ⟨_, rfl, r⟩
  | _, _, j + 1, h, .cons _ t => val_at j (Nat.lt_of_succ_lt_succ h) t
theorem dq_at {K : Frag} {H : Hp} : ∀ {vs : List V} {ws : List W} {j : Nat} {v : V}, DqAll K H vs ws → vs[j]? = some v → ∃ w, ws[j]? = some w ∧ Dq K H v w
  | _, _, j, v, .nil, e => by simp at e
  | _, _, 0, v, .cons h _, e => by
    cases e
    exact ⟨_, rfl, h⟩
  | _, _, j + 1, v, .cons _ hs, e => dq_at (j := j) hs e
theorem isD_mem : ∀ {n : Nat} {ws : List W} {j : Nat} {w : W}, isDs n ws = true → ws[j]? = some w → isD n w = true
  | _, [], _, _, _, e => by simp at e
  | n, w :: ws, 0, _, d, e => by
    cases e
    exact (Bool.and_eq_true_iff.mp d).1
  | n, w :: ws, j + 1, _, d, e => isD_mem (j := j) (Bool.and_eq_true_iff.mp d).2 e
theorem atom_or (n : Nat) (w : W) (d : isD n w = true) : (w = .non ∨ (∃ b, w = .bl b) ∨ (∃ i, w = .int i) ∨ ∃ x, w = .str x) ∨ ∃ m, n = m + 1 ∧ ((∃ ws, w = .tup ws ∧ isDs m ws = true) ∨ ∃ ws, w = .lst ws ∧ isDs m ws = true) := by
  cases w with
  | non => exact .inl (.inl rfl)
  | bl b => exact .inl (.inr (.inl ⟨b, rfl⟩))
  | int i => exact .inl (.inr (.inr (.inl ⟨i, rfl⟩)))
  | str x => exact .inl (.inr (.inr (.inr ⟨x, rfl⟩)))
  | tup ws => cases n with
    | zero => cases d
    | succ m => exact .inr ⟨m, rfl, .inl ⟨ws, rfl, d⟩⟩
  | lst ws => cases n with
    | zero => cases d
    | succ m => exact .inr ⟨m, rfl, .inr ⟨ws, rfl, d⟩⟩
  | _ => cases n <;> cases d
open PySem.SeqAt in
theorem eq_atoms {K : Frag} {A : Around} {v u : V} {a b : Value} : ∀ {x y : W}, Dq K H v x → Dq K H u y → RelV v a → RelV u b → (x = .non ∨ (∃ b, x = .bl b) ∨ (∃ i, x = .int i) ∨ ∃ z, x = .str z) → (y = .non ∨ (∃ b, y = .bl b) ∨ (∃ i, y = .int i) ∨ ∃ z, y = .str z) → EqAt A s a b (eqW x y) := by
  intro x y hx hy rv ru ax ay
  rcases ax with rfl | ⟨b1, rfl⟩ | ⟨i1, rfl⟩ | ⟨x1, rfl⟩
  · cases hx
    cases rv
    rcases ay with rfl | ⟨b2, rfl⟩ | ⟨i2, rfl⟩ | ⟨x2, rfl⟩
    · cases hy
      cases ru
      show EqAt A s _ _ true
      exact EqAt.same _
    · cases hy
      cases ru
      show EqAt A s _ _ false
      exact EqAt.none_bool b2
    · cases hy
      obtain ⟨t2, rfl⟩ := ru
      show EqAt A s _ _ false
      exact EqAt.none_int i2 t2
    · cases hy
      obtain ⟨t2, rfl⟩ := ru
      show EqAt A s _ _ false
      exact EqAt.none_str x2 t2
  · cases hx
    cases rv
    rcases ay with rfl | ⟨b2, rfl⟩ | ⟨i2, rfl⟩ | ⟨x2, rfl⟩
    · cases hy
      cases ru
      show EqAt A s _ _ false
      exact EqAt.bool_none b1
    · cases hy
      cases ru
      show EqAt A s _ _ (b1 == b2)
      exact EqAt.bool_bool b1 b2
    · cases hy
      obtain ⟨t2, rfl⟩ := ru
      show EqAt A s _ _ ((if b1 then 1 else 0) == i2)
      exact EqAt.bool_int b1 i2 t2
    · cases hy
      obtain ⟨t2, rfl⟩ := ru
      show EqAt A s _ _ false
      exact EqAt.bool_str b1 x2 t2
  · cases hx
    obtain ⟨t1, rfl⟩ := rv
    rcases ay with rfl | ⟨b2, rfl⟩ | ⟨i2, rfl⟩ | ⟨x2, rfl⟩
    · cases hy
      cases ru
      show EqAt A s _ _ false
      exact EqAt.int_none i1 t1
    · cases hy
      cases ru
      show EqAt A s _ _ (i1 == (if b2 then 1 else 0))
      exact EqAt.int_bool i1 t1 b2
    · cases hy
      obtain ⟨t2, rfl⟩ := ru
      show EqAt A s _ _ (i1 == i2)
      exact EqAt.int_int i1 t1 i2 t2
    · cases hy
      obtain ⟨t2, rfl⟩ := ru
      show EqAt A s _ _ false
      exact EqAt.int_str i1 t1 x2 t2
  · cases hx
    obtain ⟨t1, rfl⟩ := rv
    rcases ay with rfl | ⟨b2, rfl⟩ | ⟨i2, rfl⟩ | ⟨x2, rfl⟩
    · cases hy
      cases ru
      show EqAt A s _ _ false
      exact EqAt.str_none x1 t1
    · cases hy
      cases ru
      show EqAt A s _ _ false
      exact EqAt.str_bool x1 t1 b2
    · cases hy
      obtain ⟨t2, rfl⟩ := ru
      show EqAt A s _ _ false
      exact EqAt.str_int x1 t1 i2 t2
    · cases hy
      obtain ⟨t2, rfl⟩ := ru
      show EqAt A s _ _ (x1 == x2)
      exact EqAt.str_str x1 t1 x2 t2
open PySem.SeqAt in
theorem eq_atom_seq {K : Frag} {A : Around} {v : V} {a : Value} {l : Addr} {its : Array Value} (hu : A.units < cLine) : ∀ {x : W}, Dq K H v x → RelV v a → (x = .non ∨ (∃ b, x = .bl b) ∨ (∃ i, x = .int i) ∨ ∃ z, x = .str z) →
    (s.heap.IsTuple l its → EqAt A s a (.ref l) false ∧ EqAt A s (.ref l) a false) ∧ (s.heap.IsList l its → EqAt A s a (.ref l) false ∧ EqAt A s (.ref l) a false) := by
  intro x hx rv ax
  rcases ax with rfl | ⟨b1, rfl⟩ | ⟨i1, rfl⟩ | ⟨x1, rfl⟩
  · cases hx
    cases rv
    exact ⟨fun t => ⟨EqAt.none_tuple t hu, EqAt.tuple_none t hu⟩, fun t => ⟨EqAt.none_list t hu, EqAt.list_none t hu⟩⟩
  · cases hx
    cases rv
    exact ⟨fun t => ⟨EqAt.bool_tuple b1 t hu, EqAt.tuple_bool b1 t hu⟩, fun t => ⟨EqAt.bool_list b1 t hu, EqAt.list_bool b1 t hu⟩⟩
  · cases hx
    obtain ⟨t1, rfl⟩ := rv
    exact ⟨fun t => ⟨EqAt.int_tuple i1 t1 t hu, EqAt.tuple_int i1 t1 t hu⟩, fun t => ⟨EqAt.int_list i1 t1 t hu, EqAt.list_int i1 t1 t hu⟩⟩
  · cases hx
    obtain ⟨t1, rfl⟩ := rv
    exact ⟨fun t => ⟨EqAt.str_tuple x1 t1 t hu, EqAt.tuple_str x1 t1 t hu⟩, fun t => ⟨EqAt.str_list x1 t1 t hu, EqAt.list_str x1 t1 t hu⟩⟩
open PySem.SeqAt in
/-- the comparison of two pieces of data within other data -/
theorem eq_at (I : Inv X pins σ H s) : ∀ (n : Nat) (x y : W) (v u : V) (a b : Value) (A : Around), Dq X.K H v x → Dq X.K H u y → isD n x = true → isD n y = true → RelV v a → RelV u b → A.units + n < cLine → EqAt A s a b (eqW x y) := by
  intro n
  induction n with
  | zero =>
    intro x y v u a b A hx hy dx dy rv ru hu
    rcases atom_or 0 x dx with hx1 | ⟨m, hm, _⟩
    · rcases atom_or 0 y dy with hy1 | ⟨m, hm, _⟩
      · exact eq_atoms hx hy rv ru hx1 hy1
      · omega
    · omega
  | succ n ih =>
    intro x y v u a b A hx hy dx dy rv ru hu
    have hu0 : A.units < cLine := by omega
    rcases atom_or (n + 1) x dx with hx1 | ⟨m, hm, hx1⟩
    · rcases atom_or (n + 1) y dy with hy1 | ⟨m', hm', hy1⟩
      · exact eq_atoms hx hy rv ru hx1 hy1
      · have e0 : eqW x y = false := by
          rcases hx1 with rfl | ⟨_, rfl⟩ | ⟨_, rfl⟩ | ⟨_, rfl⟩ <;> rcases hy1 with ⟨ws, rfl, d⟩ | ⟨ws, rfl, d⟩ <;> simp only [eqW]
        rw [e0]
        rcases hy1 with ⟨ws, rfl, d⟩ | ⟨ws, rfl, d⟩
        · cases hy with
          | tup q hs =>
            cases ru
            obtain ⟨its, r, t, z⟩ := I.tuple q
            exact ((eq_atom_seq hu0 hx rv hx1).1 t).1
        · cases hy with
          | lst q hs =>
            cases ru
            obtain ⟨its, r, t, z⟩ := I.list q
            exact ((eq_atom_seq hu0 hx rv hx1).2 t.isList).1
    · have hmn : m = n := by omega
      subst hmn
      -- two rows of data, item by item
      have each : ∀ {xs ys : List W} {vs us : List V} {as bs : List Value}, DqAll X.K H vs xs → DqAll X.K H us ys → isDs m xs = true → isDs m ys = true → Vals vs as → Vals us bs → ∀ j (h1 : j < as.toArray.size) (h2 : j < bs.toArray.size), EqAt A.in1 s as.toArray[j] bs.toArray[j] (eqAtW xs ys j) := by
        intro xs ys vs us as bs e1 e2 d1 d2 r1 r2 j h1 h2
        obtain ⟨v1, f1, g1⟩ := val_at j (by simpa using h1) r1
        obtain ⟨v2, f2, g2⟩ := val_at j (by simpa using h2) r2
        obtain ⟨w1, k1, l1⟩ := dq_at e1 f1
        obtain ⟨w2, k2, l2⟩ := dq_at e2 f2
        have := ih w1 w2 v1 v2 _ _ A.in1 l1 l2 (isD_mem d1 k1) (isD_mem d2 k2) g1 g2 (by show A.units + 1 + m < cLine; omega)
        unfold eqAtW
        rw [k1, k2]
        simpa using this
      rcases hx1 with ⟨ws, rfl, d⟩ | ⟨ws, rfl, d⟩
      · cases hx with
        | tup q hs =>
          cases rv
          obtain ⟨its, r, t, z⟩ := I.tuple q
          rcases atom_or (m + 1) y dy with hy1 | ⟨m', hm', hy1⟩
          · have e0 : eqW (.tup ws) y = false := by
              rcases hy1 with rfl | ⟨_, rfl⟩ | ⟨_, rfl⟩ | ⟨_, rfl⟩ <;> simp only [eqW]
            rw [e0]
            exact ((eq_atom_seq hu0 hy ru hy1).1 t).2
          · have hm2 : m' = m := by omega
            subst hm2
            rcases hy1 with ⟨us, rfl, d2⟩ | ⟨us, rfl, d2⟩
            · cases hy with
              | @tup a2 vs2 _ q2 hs2 =>
                cases ru
                obtain ⟨its2, r2, t2, z2⟩ := I.tuple q2
                rename_i a1 vs1
                by_cases hab : a1 = a2
                · subst hab
                  have e := dq_inj I (.tup q hs) (.tup q2 hs2)
                  rw [← e, eqW_refl (m' + 1) _ dx]
                  exact EqAt.same _
                · refine EqAt.of_refs hab ?_
                  have n1 : its.toArray.size = ws.length := by simpa using r.length.symm.trans hs.len
                  have n2 : its2.toArray.size = us.length := by simpa using r2.length.symm.trans hs2.len
                  have w0 := RcAt.tuples t t2 hu0 (each hs hs2 d d2 r r2)
                  rw [n1, n2, ← eqWs_all] at w0
                  exact w0
            · cases hy with
              | lst q2 hs2 =>
                cases ru
                obtain ⟨its2, r2, t2, z2⟩ := I.list q2
                exact EqAt.tuple_list t t2.isList hu0
      · cases hx with
        | lst q hs =>
          cases rv
          obtain ⟨its, r, t, z⟩ := I.list q
          rcases atom_or (m + 1) y dy with hy1 | ⟨m', hm', hy1⟩
          · have e0 : eqW (.lst ws) y = false := by
              rcases hy1 with rfl | ⟨_, rfl⟩ | ⟨_, rfl⟩ | ⟨_, rfl⟩ <;> simp only [eqW]
            rw [e0]
            exact ((eq_atom_seq hu0 hy ru hy1).2 t.isList).2
          · have hm2 : m' = m := by omega
            subst hm2
            rcases hy1 with ⟨us, rfl, d2⟩ | ⟨us, rfl, d2⟩
            · cases hy with
              | tup q2 hs2 =>
                cases ru
                obtain ⟨its2, r2, t2, z2⟩ := I.tuple q2
                exact EqAt.list_tuple t.isList t2 hu0
            · cases hy with
              | @lst a2 vs2 _ q2 hs2 =>
                cases ru
                obtain ⟨its2, r2, t2, z2⟩ := I.list q2
                rename_i a1 vs1
                by_cases hab : a1 = a2
                · subst hab
                  have e := dq_inj I (.lst q hs) (.lst q2 hs2)
                  rw [← e, eqW_refl (m' + 1) _ dx]
                  exact EqAt.same _
                · refine EqAt.of_refs hab ?_
                  have n1 : its.toArray.size = ws.length := by simpa using r.length.symm.trans hs.len
                  have n2 : its2.toArray.size = us.length := by simpa using r2.length.symm.trans hs2.len
                  by_cases hz : its.toArray.size = its2.toArray.size
                  · have w0 := RcAt.lists t.isList t2.isList hz hu0 (each hs hs2 d d2 r r2)
                    have e3 : eqW (.lst ws) (.lst us) = (List.range its.toArray.size).all (eqAtW ws us) := by
                      show eqWs ws us = _
                      rw [eqWs_all]
                      have e4 : ws.length = us.length := by omega
                      rw [n1, ← e4, Nat.min_self]
                      simp
                    rw [e3]
                    exact w0
                  · have e3 : eqW (.lst ws) (.lst us) = false := by
                      show eqWs ws us = _
                      rw [eqWs_all]
                      have e4 : ws.length ≠ us.length := by omega
                      simp [e4]
                    rw [e3]
                    exact RcAt.lists_lengths t.isList t2.isList (by simpa using hz) hu0
open PySem.SeqAt in
theorem rcat_atoms {K : Frag} {A : Around} {v u : V} {a b : Value} : ∀ {x y : W}, Dq K H v x → Dq K H u y → RelV v a → RelV u b → (x = .non ∨ (∃ b, x = .bl b) ∨ (∃ i, x = .int i) ∨ ∃ z, x = .str z) → (y = .non ∨ (∃ b, y = .bl b) ∨ (∃ i, y = .int i) ∨ ∃ z, y = .str z) → RcAt A s a b (eqW x y) := by
  intro x y hx hy rv ru ax ay
  rcases ax with rfl | ⟨b1, rfl⟩ | ⟨i1, rfl⟩ | ⟨x1, rfl⟩
  · cases hx
    cases rv
    rcases ay with rfl | ⟨b2, rfl⟩ | ⟨i2, rfl⟩ | ⟨x2, rfl⟩
    · cases hy
      cases ru
      show RcAt A s _ _ true
      exact RcAt.none_none
    · cases hy
      cases ru
      show RcAt A s _ _ false
      exact RcAt.none_bool b2
    · cases hy
      obtain ⟨t2, rfl⟩ := ru
      show RcAt A s _ _ false
      exact RcAt.none_int i2 t2
    · cases hy
      obtain ⟨t2, rfl⟩ := ru
      show RcAt A s _ _ false
      exact RcAt.none_str x2 t2
  · cases hx
    cases rv
    rcases ay with rfl | ⟨b2, rfl⟩ | ⟨i2, rfl⟩ | ⟨x2, rfl⟩
    · cases hy
      cases ru
      show RcAt A s _ _ false
      exact RcAt.bool_none b1
    · cases hy
      cases ru
      show RcAt A s _ _ (b1 == b2)
      exact RcAt.bool_bool b1 b2
    · cases hy
      obtain ⟨t2, rfl⟩ := ru
      show RcAt A s _ _ ((if b1 then 1 else 0) == i2)
      exact RcAt.bool_int b1 i2 t2
    · cases hy
      obtain ⟨t2, rfl⟩ := ru
      show RcAt A s _ _ false
      exact RcAt.bool_str b1 x2 t2
  · cases hx
    obtain ⟨t1, rfl⟩ := rv
    rcases ay with rfl | ⟨b2, rfl⟩ | ⟨i2, rfl⟩ | ⟨x2, rfl⟩
    · cases hy
      cases ru
      show RcAt A s _ _ false
      exact RcAt.int_none i1 t1
    · cases hy
      cases ru
      show RcAt A s _ _ (i1 == (if b2 then 1 else 0))
      exact RcAt.int_bool i1 t1 b2
    · cases hy
      obtain ⟨t2, rfl⟩ := ru
      show RcAt A s _ _ (i1 == i2)
      exact RcAt.int_int i1 t1 i2 t2
    · cases hy
      obtain ⟨t2, rfl⟩ := ru
      show RcAt A s _ _ false
      exact RcAt.int_str i1 t1 x2 t2
  · cases hx
    obtain ⟨t1, rfl⟩ := rv
    rcases ay with rfl | ⟨b2, rfl⟩ | ⟨i2, rfl⟩ | ⟨x2, rfl⟩
    · cases hy
      cases ru
      show RcAt A s _ _ false
      exact RcAt.str_none x1 t1
    · cases hy
      cases ru
      show RcAt A s _ _ false
      exact RcAt.str_bool x1 t1 b2
    · cases hy
      obtain ⟨t2, rfl⟩ := ru
      show RcAt A s _ _ false
      exact RcAt.str_int x1 t1 i2 t2
    · cases hy
      obtain ⟨t2, rfl⟩ := ru
      show RcAt A s _ _ (x1 == x2)
      exact RcAt.str_str x1 t1 x2 t2
open PySem.SeqAt in
theorem rcat_seq {K : Frag} {A : Around} {v : V} {a : Value} {l : Addr} {its : Array Value} (hu : A.units < cLine) : ∀ {x : W}, Dq K H v x → RelV v a → (x = .non ∨ (∃ b, x = .bl b) ∨ (∃ i, x = .int i) ∨ ∃ z, x = .str z) →
    (s.heap.IsTuple l its → RcAt A s a (.ref l) false ∧ RcAt A s (.ref l) a false) ∧ (s.heap.IsList l its → RcAt A s a (.ref l) false ∧ RcAt A s (.ref l) a false) := by
  intro x hx rv ax
  rcases ax with rfl | ⟨b1, rfl⟩ | ⟨i1, rfl⟩ | ⟨x1, rfl⟩
  · cases hx
    cases rv
    exact ⟨fun t => ⟨RcAt.none_tuple t hu, RcAt.tuple_none t hu⟩, fun t => ⟨RcAt.none_list t hu, RcAt.list_none t hu⟩⟩
  · cases hx
    cases rv
    exact ⟨fun t => ⟨RcAt.bool_tuple b1 t hu, RcAt.tuple_bool b1 t hu⟩, fun t => ⟨RcAt.bool_list b1 t hu, RcAt.list_bool b1 t hu⟩⟩
  · cases hx
    obtain ⟨t1, rfl⟩ := rv
    exact ⟨fun t => ⟨RcAt.int_tuple i1 t1 t hu, RcAt.tuple_int i1 t1 t hu⟩, fun t => ⟨RcAt.int_list i1 t1 t hu, RcAt.list_int i1 t1 t hu⟩⟩
  · cases hx
    obtain ⟨t1, rfl⟩ := rv
    exact ⟨fun t => ⟨RcAt.str_tuple x1 t1 t hu, RcAt.tuple_str x1 t1 t hu⟩, fun t => ⟨RcAt.str_list x1 t1 t hu, RcAt.list_str x1 t1 t hu⟩⟩
open PySem.SeqAt in
theorem rcat_top (I : Inv X pins σ H s) (n : Nat) (x y : W) (v u : V) (a b : Value) (A : Around) (hx : Dq X.K H v x) (hy : Dq X.K H u y) (dx : isD n x = true) (dy : isD n y = true) (rv : RelV v a) (ru : RelV u b) (hu : A.units + n < cLine) : RcAt A s a b (eqW x y) := by
  have hu0 : A.units < cLine := by omega
  rcases atom_or n x dx with hx1 | ⟨m, hm, hx1⟩
  · rcases atom_or n y dy with hy1 | ⟨m', hm', hy1⟩
    · exact rcat_atoms hx hy rv ru hx1 hy1
    · have e0 : eqW x y = false := by
        rcases hx1 with rfl | ⟨_, rfl⟩ | ⟨_, rfl⟩ | ⟨_, rfl⟩ <;> rcases hy1 with ⟨ws, rfl, d⟩ | ⟨ws, rfl, d⟩ <;> simp only [eqW]
      rw [e0]
      rcases hy1 with ⟨ws, rfl, d⟩ | ⟨ws, rfl, d⟩
      · cases hy with
        | tup q hs =>
          cases ru
          obtain ⟨its, r, t, z⟩ := I.tuple q
          exact ((rcat_seq hu0 hx rv hx1).1 t).1
      · cases hy with
        | lst q hs =>
          cases ru
          obtain ⟨its, r, t, z⟩ := I.list q
          exact ((rcat_seq hu0 hx rv hx1).2 t.isList).1
  · subst hm
    have each : ∀ {xs ys : List W} {vs us : List V} {as bs : List Value}, DqAll X.K H vs xs → DqAll X.K H us ys → isDs m xs = true → isDs m ys = true → Vals vs as → Vals us bs → ∀ j (h1 : j < as.toArray.size) (h2 : j < bs.toArray.size), EqAt A.in1 s as.toArray[j] bs.toArray[j] (eqAtW xs ys j) := by
      intro xs ys vs us as bs e1 e2 d1 d2 r1 r2 j h1 h2
      obtain ⟨v1, f1, g1⟩ := val_at j (by simpa using h1) r1
      obtain ⟨v2, f2, g2⟩ := val_at j (by simpa using h2) r2
      obtain ⟨w1, k1, l1⟩ := dq_at e1 f1
      obtain ⟨w2, k2, l2⟩ := dq_at e2 f2
      have := eq_at I m w1 w2 v1 v2 _ _ A.in1 l1 l2 (isD_mem d1 k1) (isD_mem d2 k2) g1 g2 (by show A.units + 1 + m < cLine; omega)
      unfold eqAtW
      rw [k1, k2]
      simpa using this
    rcases hx1 with ⟨ws, rfl, d⟩ | ⟨ws, rfl, d⟩
    · cases hx with
      | tup q hs =>
        cases rv
        obtain ⟨its, r, t, z⟩ := I.tuple q
        rcases atom_or (m + 1) y dy with hy1 | ⟨m', hm', hy1⟩
        · have e0 : eqW (.tup ws) y = false := by
            rcases hy1 with rfl | ⟨_, rfl⟩ | ⟨_, rfl⟩ | ⟨_, rfl⟩ <;> simp only [eqW]
          rw [e0]
          exact ((rcat_seq hu0 hy ru hy1).1 t).2
        · have hm2 : m' = m := by omega
          subst hm2
          rcases hy1 with ⟨us, rfl, d2⟩ | ⟨us, rfl, d2⟩
          · cases hy with
            | tup q2 hs2 =>
              cases ru
              obtain ⟨its2, r2, t2, z2⟩ := I.tuple q2
              have n1 : its.toArray.size = ws.length := by simpa using r.length.symm.trans hs.len
              have n2 : its2.toArray.size = us.length := by simpa using r2.length.symm.trans hs2.len
              have w0 := RcAt.tuples t t2 hu0 (each hs hs2 d d2 r r2)
              rw [n1, n2, ← eqWs_all] at w0
              exact w0
          · cases hy with
            | lst q2 hs2 =>
              cases ru
              obtain ⟨its2, r2, t2, z2⟩ := I.list q2
              exact RcAt.tuple_list t t2.isList hu0
    · cases hx with
      | lst q hs =>
        cases rv
        obtain ⟨its, r, t, z⟩ := I.list q
        rcases atom_or (m + 1) y dy with hy1 | ⟨m', hm', hy1⟩
        · have e0 : eqW (.lst ws) y = false := by
            rcases hy1 with rfl | ⟨_, rfl⟩ | ⟨_, rfl⟩ | ⟨_, rfl⟩ <;> simp only [eqW]
          rw [e0]
          exact ((rcat_seq hu0 hy ru hy1).2 t.isList).2
        · have hm2 : m' = m := by omega
          subst hm2
          rcases hy1 with ⟨us, rfl, d2⟩ | ⟨us, rfl, d2⟩
          · cases hy with
            | tup q2 hs2 =>
              cases ru
              obtain ⟨its2, r2, t2, z2⟩ := I.tuple q2
              exact RcAt.list_tuple t.isList t2 hu0
          · cases hy with
            | lst q2 hs2 =>
              cases ru
              obtain ⟨its2, r2, t2, z2⟩ := I.list q2
              have n1 : its.toArray.size = ws.length := by simpa using r.length.symm.trans hs.len
              have n2 : its2.toArray.size = us.length := by simpa using r2.length.symm.trans hs2.len
              by_cases hz : its.toArray.size = its2.toArray.size
              · have w0 := RcAt.lists t.isList t2.isList hz hu0 (each hs hs2 d d2 r r2)
                have e3 : eqW (.lst ws) (.lst us) = (List.range its.toArray.size).all (eqAtW ws us) := by
                  show eqWs ws us = _
                  rw [eqWs_all]
                  have e4 : ws.length = us.length := by omega
                  rw [n1, ← e4, Nat.min_self]
                  simp
                rw [e3]
                exact w0
              · have e3 : eqW (.lst ws) (.lst us) = false := by
                  show eqWs ws us = _
                  rw [eqWs_all]
                  have e4 : ws.length ≠ us.length := by omega
                  simp [e4]
                rw [e3]
                exact RcAt.lists_lengths t.isList t2.isList (by simpa using hz) hu0
open PySem.SeqAt in
theorem rcneat_atoms {K : Frag} {A : Around} {v u : V} {a b : Value} : ∀ {x y : W}, Dq K H v x → Dq K H u y → RelV v a → RelV u b → (x = .non ∨ (∃ b, x = .bl b) ∨ (∃ i, x = .int i) ∨ ∃ z, x = .str z) → (y = .non ∨ (∃ b, y = .bl b) ∨ (∃ i, y = .int i) ∨ ∃ z, y = .str z) → RcNeAt A s a b (!eqW x y) := by
  intro x y hx hy rv ru ax ay
  rcases ax with rfl | ⟨b1, rfl⟩ | ⟨i1, rfl⟩ | ⟨x1, rfl⟩
  · cases hx
    cases rv
    rcases ay with rfl | ⟨b2, rfl⟩ | ⟨i2, rfl⟩ | ⟨x2, rfl⟩
    · cases hy
      cases ru
      show RcNeAt A s _ _ false
      exact RcNeAt.none_none
    · cases hy
      cases ru
      show RcNeAt A s _ _ true
      exact RcNeAt.none_bool b2
    · cases hy
      obtain ⟨t2, rfl⟩ := ru
      show RcNeAt A s _ _ true
      exact RcNeAt.none_int i2 t2
    · cases hy
      obtain ⟨t2, rfl⟩ := ru
      show RcNeAt A s _ _ true
      exact RcNeAt.none_str x2 t2
  · cases hx
    cases rv
    rcases ay with rfl | ⟨b2, rfl⟩ | ⟨i2, rfl⟩ | ⟨x2, rfl⟩
    · cases hy
      cases ru
      show RcNeAt A s _ _ true
      exact RcNeAt.bool_none b1
    · cases hy
      cases ru
      show RcNeAt A s _ _ (!(b1 == b2))
      exact RcNeAt.bool_bool b1 b2
    · cases hy
      obtain ⟨t2, rfl⟩ := ru
      show RcNeAt A s _ _ (!((if b1 then 1 else 0) == i2))
      exact RcNeAt.bool_int b1 i2 t2
    · cases hy
      obtain ⟨t2, rfl⟩ := ru
      show RcNeAt A s _ _ true
      exact RcNeAt.bool_str b1 x2 t2
  · cases hx
    obtain ⟨t1, rfl⟩ := rv
    rcases ay with rfl | ⟨b2, rfl⟩ | ⟨i2, rfl⟩ | ⟨x2, rfl⟩
    · cases hy
      cases ru
      show RcNeAt A s _ _ true
      exact RcNeAt.int_none i1 t1
    · cases hy
      cases ru
      show RcNeAt A s _ _ (!(i1 == (if b2 then 1 else 0)))
      exact RcNeAt.int_bool i1 t1 b2
    · cases hy
      obtain ⟨t2, rfl⟩ := ru
      show RcNeAt A s _ _ (!(i1 == i2))
      exact RcNeAt.int_int i1 t1 i2 t2
    · cases hy
      obtain ⟨t2, rfl⟩ := ru
      show RcNeAt A s _ _ true
      exact RcNeAt.int_str i1 t1 x2 t2
  · cases hx
    obtain ⟨t1, rfl⟩ := rv
    rcases ay with rfl | ⟨b2, rfl⟩ | ⟨i2, rfl⟩ | ⟨x2, rfl⟩
    · cases hy
      cases ru
      show RcNeAt A s _ _ true
      exact RcNeAt.str_none x1 t1
    · cases hy
      cases ru
      show RcNeAt A s _ _ true
      exact RcNeAt.str_bool x1 t1 b2
    · cases hy
      obtain ⟨t2, rfl⟩ := ru
      show RcNeAt A s _ _ true
      exact RcNeAt.str_int x1 t1 i2 t2
    · cases hy
      obtain ⟨t2, rfl⟩ := ru
      show RcNeAt A s _ _ (!(x1 == x2))
      exact RcNeAt.str_str x1 t1 x2 t2
open PySem.SeqAt in
theorem rcneat_seq {K : Frag} {A : Around} {v : V} {a : Value} {l : Addr} {its : Array Value} (hu : A.units < cLine) : ∀ {x : W}, Dq K H v x → RelV v a → (x = .non ∨ (∃ b, x = .bl b) ∨ (∃ i, x = .int i) ∨ ∃ z, x = .str z) →
    (s.heap.IsTuple l its → RcNeAt A s a (.ref l) true ∧ RcNeAt A s (.ref l) a true) ∧ (s.heap.IsList l its → RcNeAt A s a (.ref l) true ∧ RcNeAt A s (.ref l) a true) := by
  intro x hx rv ax
  rcases ax with rfl | ⟨b1, rfl⟩ | ⟨i1, rfl⟩ | ⟨x1, rfl⟩
  · cases hx
    cases rv
    exact ⟨fun t => ⟨RcNeAt.none_tuple t hu, RcNeAt.tuple_none t hu⟩, fun t => ⟨RcNeAt.none_list t hu, RcNeAt.list_none t hu⟩⟩
  · cases hx
    cases rv
    exact ⟨fun t => ⟨RcNeAt.bool_tuple b1 t hu, RcNeAt.tuple_bool b1 t hu⟩, fun t => ⟨RcNeAt.bool_list b1 t hu, RcNeAt.list_bool b1 t hu⟩⟩
  · cases hx
    obtain ⟨t1, rfl⟩ := rv
    exact ⟨fun t => ⟨RcNeAt.int_tuple i1 t1 t hu, RcNeAt.tuple_int i1 t1 t hu⟩, fun t => ⟨RcNeAt.int_list i1 t1 t hu, RcNeAt.list_int i1 t1 t hu⟩⟩
  · cases hx
    obtain ⟨t1, rfl⟩ := rv
    exact ⟨fun t => ⟨RcNeAt.str_tuple x1 t1 t hu, RcNeAt.tuple_str x1 t1 t hu⟩, fun t => ⟨RcNeAt.str_list x1 t1 t hu, RcNeAt.list_str x1 t1 t hu⟩⟩
open PySem.SeqAt in
theorem rcneat_top (I : Inv X pins σ H s) (n : Nat) (x y : W) (v u : V) (a b : Value) (A : Around) (hx : Dq X.K H v x) (hy : Dq X.K H u y) (dx : isD n x = true) (dy : isD n y = true) (rv : RelV v a) (ru : RelV u b) (hu : A.units + n < cLine) : RcNeAt A s a b (!eqW x y) := by
  have hu0 : A.units < cLine := by omega
  rcases atom_or n x dx with hx1 | ⟨m, hm, hx1⟩
  · rcases atom_or n y dy with hy1 | ⟨m', hm', hy1⟩
    · exact rcneat_atoms hx hy rv ru hx1 hy1
    · have e0 : eqW x y = false := by
        rcases hx1 with rfl | ⟨_, rfl⟩ | ⟨_, rfl⟩ | ⟨_, rfl⟩ <;> rcases hy1 with ⟨ws, rfl, d⟩ | ⟨ws, rfl, d⟩ <;> simp only [eqW]
      rw [e0]
      rcases hy1 with ⟨ws, rfl, d⟩ | ⟨ws, rfl, d⟩
      · cases hy with
        | tup q hs =>
          cases ru
          obtain ⟨its, r, t, z⟩ := I.tuple q
          exact ((rcneat_seq hu0 hx rv hx1).1 t).1
      · cases hy with
        | lst q hs =>
          cases ru
          obtain ⟨its, r, t, z⟩ := I.list q
          exact ((rcneat_seq hu0 hx rv hx1).2 t.isList).1
  · subst hm
    have each : ∀ {xs ys : List W} {vs us : List V} {as bs : List Value}, DqAll X.K H vs xs → DqAll X.K H us ys → isDs m xs = true → isDs m ys = true → Vals vs as → Vals us bs → ∀ j (h1 : j < as.toArray.size) (h2 : j < bs.toArray.size), EqAt A.in1 s as.toArray[j] bs.toArray[j] (eqAtW xs ys j) := by
      intro xs ys vs us as bs e1 e2 d1 d2 r1 r2 j h1 h2
      obtain ⟨v1, f1, g1⟩ := val_at j (by simpa using h1) r1
      obtain ⟨v2, f2, g2⟩ := val_at j (by simpa using h2) r2
      obtain ⟨w1, k1, l1⟩ := dq_at e1 f1
      obtain ⟨w2, k2, l2⟩ := dq_at e2 f2
      have := eq_at I m w1 w2 v1 v2 _ _ A.in1 l1 l2 (isD_mem d1 k1) (isD_mem d2 k2) g1 g2 (by show A.units + 1 + m < cLine; omega)
      unfold eqAtW
      rw [k1, k2]
      simpa using this
    rcases hx1 with ⟨ws, rfl, d⟩ | ⟨ws, rfl, d⟩
    · cases hx with
      | tup q hs =>
        cases rv
        obtain ⟨its, r, t, z⟩ := I.tuple q
        rcases atom_or (m + 1) y dy with hy1 | ⟨m', hm', hy1⟩
        · have e0 : eqW (.tup ws) y = false := by
            rcases hy1 with rfl | ⟨_, rfl⟩ | ⟨_, rfl⟩ | ⟨_, rfl⟩ <;> simp only [eqW]
          rw [e0]
          exact ((rcneat_seq hu0 hy ru hy1).1 t).2
        · have hm2 : m' = m := by omega
          subst hm2
          rcases hy1 with ⟨us, rfl, d2⟩ | ⟨us, rfl, d2⟩
          · cases hy with
            | tup q2 hs2 =>
              cases ru
              obtain ⟨its2, r2, t2, z2⟩ := I.tuple q2
              have n1 : its.toArray.size = ws.length := by simpa using r.length.symm.trans hs.len
              have n2 : its2.toArray.size = us.length := by simpa using r2.length.symm.trans hs2.len
              have w0 := RcNeAt.tuples t t2 hu0 (each hs hs2 d d2 r r2)
              rw [n1, n2, ← eqWs_all] at w0
              exact w0
          · cases hy with
            | lst q2 hs2 =>
              cases ru
              obtain ⟨its2, r2, t2, z2⟩ := I.list q2
              exact RcNeAt.tuple_list t t2.isList hu0
    · cases hx with
      | lst q hs =>
        cases rv
        obtain ⟨its, r, t, z⟩ := I.list q
        rcases atom_or (m + 1) y dy with hy1 | ⟨m', hm', hy1⟩
        · have e0 : eqW (.lst ws) y = false := by
            rcases hy1 with rfl | ⟨_, rfl⟩ | ⟨_, rfl⟩ | ⟨_, rfl⟩ <;> simp only [eqW]
          rw [e0]
          exact ((rcneat_seq hu0 hy ru hy1).2 t.isList).2
        · have hm2 : m' = m := by omega
          subst hm2
          rcases hy1 with ⟨us, rfl, d2⟩ | ⟨us, rfl, d2⟩
          · cases hy with
            | tup q2 hs2 =>
              cases ru
              obtain ⟨its2, r2, t2, z2⟩ := I.tuple q2
              exact RcNeAt.list_tuple t.isList t2 hu0
          · cases hy with
            | lst q2 hs2 =>
              cases ru
              obtain ⟨its2, r2, t2, z2⟩ := I.list q2
              have n1 : its.toArray.size = ws.length := by simpa using r.length.symm.trans hs.len
              have n2 : its2.toArray.size = us.length := by simpa using r2.length.symm.trans hs2.len
              by_cases hz : its.toArray.size = its2.toArray.size
              · have w0 := RcNeAt.lists t.isList t2.isList hz hu0 (each hs hs2 d d2 r r2)
                have e3 : eqW (.lst ws) (.lst us) = (List.range its.toArray.size).all (eqAtW ws us) := by
                  show eqWs ws us = _
                  rw [eqWs_all]
                  have e4 : ws.length = us.length := by omega
                  rw [n1, ← e4, Nat.min_self]
                  simp
                rw [e3]
                exact w0
              · have e3 : eqW (.lst ws) (.lst us) = false := by
                  show eqWs ws us = _
                  rw [eqWs_all]
                  have e4 : ws.length ≠ us.length := by omega
                  simp [e4]
                rw [e3]
                exact RcNeAt.lists_lengths t.isList t2.isList (by simpa using hz) hu0
end
end Q
namespace Q
open PySem L2 Evl
/-! x in xs, data of any depth -/
theorem rel_inj {v v' : V} {u : Value} (p : RelV v u) (p' : RelV v' u) : v = v' := by
  cases v <;> cases v' <;> simp only [RelV] at p p' <;> first
    | rfl
    | (subst p; cases p'; rfl)
    | (subst p; cases p'; done)
    | (subst p; obtain ⟨t, h⟩ := p'; cases h; rfl)
    | (subst p; obtain ⟨t, h⟩ := p'; cases h; done)
    | (obtain ⟨t, rfl⟩ := p; cases p'; rfl)
    | (obtain ⟨t, rfl⟩ := p; cases p'; done)
    | (obtain ⟨t, rfl⟩ := p; obtain ⟨t', h⟩ := p'; cases h; rfl)
    | (obtain ⟨t, rfl⟩ := p; obtain ⟨t', h⟩ := p'; cases h; done)
section
variable {X : Cx} {pins : List (Addr × Obj)} {σ : St} {H : Hp} {s : Shared}
open Classical in
/-- the answer by the item itself -/
noncomputable def ansOf (K : Frag) (H : Hp) (n : Nat) (x : W) (u : Value) : Bool := decide (∃ v w, RelV v u ∧ Dq K H v w ∧ isD n w = true ∧ eqW w x = true)
open Classical in
theorem ansOf_is (I : Inv X pins σ H s) {n : Nat} {x w : W} {v : V} {u : Value} (r : RelV v u) (d : Dq X.K H v w) (k : isD n w = true) : ansOf X.K H n x u = eqW w x := by
  unfold ansOf
  by_cases h : eqW w x = true
  · rw [h]
    exact decide_eq_true ⟨v, w, r, d, k, h⟩
  · rw [Bool.not_eq_true] at h
    rw [h]
    refine decide_eq_false fun ⟨v', w', r', d', k', h'⟩ => ?_
    rw [rel_inj r' r] at d'
    rw [dq_inj I d' d, h] at h'
    cases h'
theorem any_ans (I : Inv X pins σ H s) {n : Nat} {x : W} : ∀ {vs : List V} {ws : List W} {us : List Value}, Vals vs us → DqAll X.K H vs ws → isDs n ws = true → us.any (ansOf X.K H n x) = ws.any fun w => eqW w x
  | _, _, _, .nil, h, _ => by
    cases h
    rfl
  | _, _, _, .cons r rs, h, k => by
    cases h with
    | cons d ds =>
      have k := Bool.and_eq_true_iff.mp k
      rw [List.any_cons, List.any_cons, ansOf_is I r d k.1, any_ans I rs ds k.2]
theorem mem_ans (I : Inv X pins σ H s) {A : Around} {n : Nat} {x : W} {v : V} {a : Value} (hx : Dq X.K H v x) (dx : isD n x = true) (rx : RelV v a) (hu : A.units + n < cLine) : ∀ {vs : List V} {ws : List W} {us : List Value}, Vals vs us → DqAll X.K H vs ws → isDs n ws = true → ∀ y ∈ us, SeqAt.EqAt A s y a (ansOf X.K H n x y)
  | _, _, _, .nil, _, _ => fun y hy => absurd hy List.not_mem_nil
  | _, _, _, .cons r rs, h, k => by
    cases h with
    | cons d ds =>
      have k := Bool.and_eq_true_iff.mp k
      intro y hy
      rcases List.mem_cons.mp hy with rfl | hy
      · rw [ansOf_is I r d k.1]
        exact eq_at I n _ x _ v _ a A d hx k.1 dx r rx hu
      · exact mem_ans I hx dx rx hu rs ds k.2 y hy
def rInQ (K : Frag) (neg : Bool) : R2 := fun x y H Q => ∃ (n : Nat) (p : Addr) (vs : List V) (w : W) (ws : List W), n ≤ 60 ∧ y = .ref p ∧ (SqL K H p vs ∨ SqT K H p vs) ∧ Dq K H x w ∧ isD n w = true ∧ DqAll K H vs ws ∧ isDs n ws = true ∧ Q (.bl (if neg then !(ws.any fun z => eqW z w) else ws.any fun z => eqW z w)) H
theorem op_inQ (hu : X.A.units + 64 < cLine) : OpR X (compareOp .In) (rInQ X.K false) := by
  intro pins s σ H x y v u Q I rx ry h
  obtain ⟨n, p, vs, w, ws, hn, rfl, hq, dx, kx, ds, ks, q⟩ := h
  cases ry
  rcases hq with hq | hq
  · obtain ⟨its, r, t, z⟩ := I.list hq
    refine SeqAt.in_listAt (ansOf X.K H n w) t.isList (fun y hy => mem_ans I dx kx rx (by show X.A.units + 1 + n < cLine; omega) r ds ks y (by simpa using hy)) ?_
    rw [← Array.any_toList, any_ans I r ds ks]
    exact ⟨.bl _, H, I, rfl, q⟩
  · obtain ⟨its, r, t, z⟩ := I.tuple hq
    refine SeqAt.in_tupleAt (ansOf X.K H n w) t (fun y hy => mem_ans I dx kx rx (by show X.A.units + 1 + n < cLine; omega) r ds ks y (by simpa using hy)) ?_
    rw [← Array.any_toList, any_ans I r ds ks]
    exact ⟨.bl _, H, I, rfl, q⟩
theorem op_notInQ (hu : X.A.units + 64 < cLine) : OpR X (compareOp .NotIn) (rInQ X.K true) := by
  intro pins s σ H x y v u Q I rx ry h
  obtain ⟨n, p, vs, w, ws, hn, rfl, hq, dx, kx, ds, ks, q⟩ := h
  cases ry
  rcases hq with hq | hq
  · obtain ⟨its, r, t, z⟩ := I.list hq
    refine SeqAt.notIn_listAt (ansOf X.K H n w) t.isList (fun y hy => mem_ans I dx kx rx (by show X.A.units + 1 + n < cLine; omega) r ds ks y (by simpa using hy)) ?_
    rw [← Array.any_toList, any_ans I r ds ks]
    exact ⟨.bl _, H, I, rfl, q⟩
  · obtain ⟨its, r, t, z⟩ := I.tuple hq
    refine SeqAt.notIn_tupleAt (ansOf X.K H n w) t (fun y hy => mem_ans I dx kx rx (by show X.A.units + 1 + n < cLine; omega) r ds ks y (by simpa using hy)) ?_
    rw [← Array.any_toList, any_ans I r ds ks]
    exact ⟨.bl _, H, I, rfl, q⟩
/-- x == y, x != y -/
def rEqQ (K : Frag) (neg : Bool) : R2 := fun x y H Q => ∃ (a b : W), Dq K H x a ∧ Dq K H y b ∧ isD 60 a = true ∧ isD 60 b = true ∧ Q (.bl (if neg then !eqW a b else eqW a b)) H
theorem op_eqQ (hu : X.A.units + 64 < cLine) : OpR X (compareOp .Eq) (rEqQ X.K false) := by
  intro pins s σ H x y v u Q I rx ry h
  obtain ⟨a, b, da, db, ka, kb, q⟩ := h
  exact rcat_top I 60 a b x y v u X.A da db ka kb rx ry (by omega) _ _ _ _ ⟨.bl _, H, I, rfl, q⟩
theorem op_neQ (hu : X.A.units + 64 < cLine) : OpR X (compareOp .NotEq) (rEqQ X.K true) := by
  intro pins s σ H x y v u Q I rx ry h
  obtain ⟨a, b, da, db, ka, kb, q⟩ := h
  exact rcneat_top I 60 a b x y v u X.A da db ka kb rx ry (by omega) _ _ _ _ ⟨.bl _, H, I, rfl, q⟩
end
end Q
namespace Q
open PySem L2 Evl
/-! operations on values -/
def sLt (a b : Str) : Bool := decide (a.cps.toList < b.cps.toList)
@[reducible] def rdL (μ : Mu) (w : W) : Option (List W) := match w with
  | .lst ws => some ws
  | .rol ws => some ws
  | .ref p => (match μ p with
    | some (.ls ws) => some ws
    | _ => none)
  | _ => none
/-- no script -/
@[reducible] def rdM (μ : Mu) (w : W) : Option (List W) := match w with
  | .lst ws => some ws
  | .ref p => (match μ p with
    | some (.ls ws) => some ws
    | _ => none)
  | _ => none
theorem rdL_at {K : Frag} {H : Hp} {μ : Mu} {v : V} {w : W} {ws : List W} (h : rdL μ w = some ws) (r : Rw K H μ v w) (m : Mem K H μ) : ∃ a vs, v = .ref a ∧ SqL K H a vs ∧ RwAll K H μ vs ws := by
  unfold rdL at h
  split at h
  · cases h
    cases r with
    | lst h hs => exact ⟨_, _, rfl, .inl (.inl h.1), hs⟩
  · cases h
    cases r with
    | rol h hs => exact ⟨_, _, rfl, .inl h.1, hs⟩
  · split at h
    · cases h
      rename_i e
      cases r
      obtain ⟨vs, h1, h2⟩ := m _ _ e
      exact ⟨_, vs, rfl, .inl (.inl h1), h2⟩
    · cases h
  · cases h
theorem rdM_at {K : Frag} {H : Hp} {μ : Mu} {v : V} {w : W} {ws : List W} (h : rdM μ w = some ws) (r : Rw K H μ v w) (m : Mem K H μ) : ∃ a vs, v = .ref a ∧ H a = some (.lst vs) ∧ RwAll K H μ vs ws := by
  unfold rdM at h
  split at h
  · cases h
    cases r with
    | lst h hs => exact ⟨_, _, rfl, h.1, hs⟩
  · split at h
    · cases h
      rename_i e
      cases r
      obtain ⟨vs, h1, h2⟩ := m _ _ e
      exact ⟨_, vs, rfl, h1, h2⟩
    · cases h
  · cases h
theorem big {n : Nat} (h : n ≤ 16000000) : n ≤ sizeLine := by
  rw [sizeLine_eq]
  omega
theorem biglt {n : Nat} (h : n < 16000000) : n < sizeLine := by
  rw [sizeLine_eq]
  omega
theorem VL.now {K : Frag} {Q : VK} {μ : Mu} {H : Hp} {P : Po} (l : VL K Q μ H P) {w : W} {v : V} (p : P w μ) (m : Mem K H μ) (r : Rw K H μ v w) : Q v H := l w μ v H p (Stp.refl μ H) m r
theorem VL.tup {K : Frag} {Q : VK} {μ : Mu} {H : Hp} {P : Po} (l : VL K Q μ H P) {ws : List W} {vs : List V} (p : P (.tup ws) μ) (m : Mem K H μ) (r : RwAll K H μ vs ws) {a : Addr} (ha : H a = none) : Q (.ref a) (upd H a (.tup vs)) := l _ μ _ _ p (Stp.new ha) (m.new ha) (new_tup m ha r)
theorem VL.lst {K : Frag} {Q : VK} {μ : Mu} {H : Hp} {P : Po} (l : VL K Q μ H P) {ws : List W} {vs : List V} (p : P (.lst ws) μ) (m : Mem K H μ) (r : RwAll K H μ vs ws) {a : Addr} (ha : H a = none) : Q (.ref a) (upd H a (.lst vs)) := l _ μ _ _ p (Stp.new ha) (m.new ha) (new_lst m ha r)
theorem VL.ls {K : Frag} {Q : VK} {μ : Mu} {H : Hp} {P : Po} (l : VL K Q μ H P) {ws : List W} {vs : List V} (p : ∀ p, μ p = none → P (.ref p) (mset μ p (.ls ws))) (m : Mem K H μ) (r : RwAll K H μ vs ws) {a : Addr} (ha : H a = none) : Q (.ref a) (upd H a (.lst vs)) := l _ _ _ _ (p a (m.free ha)) (Stp.newT ha) (new_ls m ha r) (.ref a)
@[reducible] def wAdd : F2 := fun x y μ P => match x with
  | .int i => (match y with
    | .int j => P (.int (i + j)) μ
    | _ => False)
  | .str a => (match y with
    | .str b => a.length + b.length ≤ 16000000 ∧ P (.str (a ++ b)) μ
    | _ => False)
  | .tup xs => (match y with
    | .tup ys => xs.length + ys.length ≤ 16000000 ∧ P (.tup (xs ++ ys)) μ
    | _ => False)
  | x => (match rdM μ x with
    | some xs => (match rdM μ y with
      | some ys => xs.length + ys.length ≤ 16000000 ∧ P (.lst (xs ++ ys)) μ
      | none => False)
    | none => False)
@[reducible] def wSub : F2 := fun x y μ P => match x, y with
  | .int i, .int j => P (.int (i - j)) μ
  | _, _ => False
def MulO (i j : Int) : Prop := CMul i j ∨ CMulW i j
theorem MulO.l {i j : Int} (h : -(2 ^ 64) < i ∧ i < 2 ^ 64 := by decide) : MulO i j := .inl (.inl h)
theorem MulO.r {i j : Int} (h : -(2 ^ 64) < j ∧ j < 2 ^ 64 := by decide) : MulO i j := .inl (.inr h)
@[reducible] def wMul : F2 := fun x y μ P => match x with
  | .int i => (match y with
    | .int j => MulO i j ∧ P (.int (i * j)) μ
    | _ => False)
  | .str a => (match y with
    | .int j => MulOk a j ∧ P (.str (Txt.mul a j)) μ
    | _ => False)
  | _ => False
@[reducible] def wFdv : F2 := fun x y μ P => match x, y with
  | .int i, .int j => (0 < j ∧ j < 1073741824) ∧ P (.int (i / j)) μ
  | _, _ => False
@[reducible] def wMod : F2 := fun x y μ P => match x, y with
  | .int i, .int j => 0 < j ∧ P (.int (i % j)) μ
  | _, _ => False
@[reducible] def wPow : F2 := fun x y μ P => match x, y with
  | .int i, .int j => CPow i j ∧ P (.int (i ^ j.toNat)) μ
  | _, _ => False
@[reducible] def wNeg : F1 := fun x μ P => match x with
  | .int i => P (.int (-i)) μ
  | _ => False
@[reducible] def wLt : F2 := fun x y μ P => match x with
  | .int i => (match y with
    | .int j => P (.bl (decide (i < j))) μ
    | _ => False)
  | .str a => (match y with
    | .str b => P (.bl (sLt a b)) μ
    | _ => False)
  | _ => False
@[reducible] def wLe : F2 := fun x y μ P => match x with
  | .int i => (match y with
    | .int j => P (.bl (decide (i ≤ j))) μ
    | _ => False)
  | .str a => (match y with
    | .str b => P (.bl (!sLt b a)) μ
    | _ => False)
  | _ => False
@[reducible] def wGt : F2 := fun x y μ P => match x with
  | .int i => (match y with
    | .int j => P (.bl (decide (j < i))) μ
    | _ => False)
  | .str a => (match y with
    | .str b => P (.bl (sLt b a)) μ
    | _ => False)
  | _ => False
@[reducible] def wGe : F2 := fun x y μ P => match x with
  | .int i => (match y with
    | .int j => P (.bl (decide (j ≤ i))) μ
    | _ => False)
  | .str a => (match y with
    | .str b => P (.bl (!sLt a b)) μ
    | _ => False)
  | _ => False
@[reducible] def drf (μ : Mu) (w : W) : W := match w with
  | .rol ws => .lst ws
  | .ref p => (match μ p with
    | some (.ls ws) => .lst ws
    | _ => .ref p)
  | w => w
def wEqG (neg : Bool) : F2 := fun x y μ P => isD 60 (drf μ x) = true ∧ isD 60 (drf μ y) = true ∧ P (.bl (if neg then !eqW (drf μ x) (drf μ y) else eqW (drf μ x) (drf μ y))) μ
@[reducible] def wEq : F2 := fun x y μ P => match x with
  | .int i => (match y with
    | .int j => P (.bl (decide (i = j))) μ
    | y => wEqG false (.int i) y μ P)
  | .str a => (match y with
    | .str b => P (.bl (decide (a = b))) μ
    | y => wEqG false (.str a) y μ P)
  | .bl a => (match y with
    | .bl b => P (.bl (decide (a = b))) μ
    | y => wEqG false (.bl a) y μ P)
  | x => wEqG false x y μ P
@[reducible] def wNe : F2 := fun x y μ P => match x with
  | .int i => (match y with
    | .int j => P (.bl (!decide (i = j))) μ
    | y => wEqG true (.int i) y μ P)
  | .str a => (match y with
    | .str b => P (.bl (!decide (a = b))) μ
    | y => wEqG true (.str a) y μ P)
  | .bl a => (match y with
    | .bl b => P (.bl (!decide (a = b))) μ
    | y => wEqG true (.bl a) y μ P)
  | x => wEqG true x y μ P
@[reducible] def isN (w : W) : Bool := match w with
  | .non => true
  | _ => false
@[reducible] def wIs : F2 := fun x y μ P => match y with
  | .non => P (.bl (isN x)) μ
  | .bl b => (match x with
    | .bl a => P (.bl (decide (a = b))) μ
    | _ => False)
  | _ => False
@[reducible] def wIsnt : F2 := fun x y μ P => match y with
  | .non => P (.bl (!isN x)) μ
  | .bl b => (match x with
    | .bl a => P (.bl (!decide (a = b))) μ
    | _ => False)
  | _ => False
section
variable {X : Cx}
theorem rw_int {K : Frag} {H : Hp} {μ : Mu} {v : V} {i : Int} (h : Rw K H μ v (.int i)) : v = .int i := by
  cases h
  rfl
theorem rw_str {K : Frag} {H : Hp} {μ : Mu} {v : V} {i : Str} (h : Rw K H μ v (.str i)) : v = .str i := by
  cases h
  rfl
theorem opU_add : OpR X (binaryOp .Add) (rW X.K wAdd) := opR_imp (op_add.or (op_add_str.or (op_catA.or op_cat))) fun x y H Q h => by
  obtain ⟨wx, wy, μ, P, rx, ry, m, h, l⟩ := h
  unfold wAdd at h
  split at h
  · split at h
    · exact .inl ⟨_, _, rw_int rx, rw_int ry, l.now h m (.int _)⟩
    · exact h.elim
  · split at h
    · exact .inr (.inl ⟨_, _, rw_str rx, rw_str ry, big h.1, l.now h.2 m (.str _)⟩)
    · exact h.elim
  · split at h
    · cases rx with
      | tup q hs =>
        cases ry with
        | tup q2 hs2 =>
          have l1 := hs.len
          have l2 := hs2.len
          refine .inr (.inr (.inl ⟨_, _, _, _, rfl, rfl, tup_sq q, tup_sq q2, big (by omega), fun e => ?_, fun _ e => ?_, fun _ _ p hp => l.tup h.2 m (hs.app hs2) hp⟩))
          · subst e
            cases hs
            exact l.now h.2 m (.tup q2 hs2)
          · subst e
            cases hs2
            exact l.now h.2 m (.tup q (by rw [List.append_nil]; exact hs))
    · exact h.elim
  · split at h
    · rename_i xs ex
      split at h
      · rename_i ys ey
        obtain ⟨a, vs, rfl, ha, r1⟩ := rdM_at ex rx m
        obtain ⟨b, us, rfl, hb, r2⟩ := rdM_at ey ry m
        have l1 := r1.len
        have l2 := r2.len
        exact .inr (.inr (.inr ⟨a, b, vs, us, rfl, rfl, ha, hb, big (by omega), fun p hp => l.lst h.2 m (r1.app r2) hp⟩))
      · exact h.elim
    · exact h.elim
theorem opU_sub : OpR X (binaryOp .Sub) (rW X.K wSub) := opR_imp op_sub fun x y H Q h => by
  obtain ⟨wx, wy, μ, P, rx, ry, m, h, l⟩ := h
  unfold wSub at h
  split at h
  · exact ⟨_, _, rw_int rx, rw_int ry, l.now h m (.int _)⟩
  · exact h.elim
def rRepS : R2 := fun x y H Q => ∃ z i, x = .str z ∧ y = .int i ∧ MulOk z i ∧ Q (.str (Txt.mul z i)) H
theorem op_repS {X : Cx} : OpR X (binaryOp .Mult) rRepS := by
  intro pins s σ H x y v u Q I rx ry h
  obtain ⟨z, i, rfl, rfl, ok, q⟩ := h
  obtain ⟨t, rfl⟩ := rx
  obtain ⟨t', rfl⟩ := ry
  exact SB.mul ok fun t2 k => ⟨.str (Txt.mul z i), H, I.tok _, ⟨_, rfl⟩, q⟩
theorem opU_mul : OpR X (binaryOp .Mult) (rW X.K wMul) := opR_imp (op_mul.or (op_mulW.or op_repS)) fun x y H Q h => by
  obtain ⟨wx, wy, μ, P, rx, ry, m, h, l⟩ := h
  unfold wMul at h
  split at h
  · split at h
    · rcases h.1 with c | c
      · exact .inl ⟨_, _, rw_int rx, rw_int ry, c, l.now h.2 m (.int _)⟩
      · exact .inr (.inl ⟨_, _, rw_int rx, rw_int ry, c, l.now h.2 m (.int _)⟩)
    · exact h.elim
  · split at h
    · exact .inr (.inr ⟨_, _, rw_str rx, rw_int ry, h.1, l.now h.2 m (.str _)⟩)
    · exact h.elim
  · exact h.elim
theorem opU_fdv : OpR X (binaryOp .FloorDiv) (rW X.K wFdv) := opR_imp op_fdiv fun x y H Q h => by
  obtain ⟨wx, wy, μ, P, rx, ry, m, h, l⟩ := h
  unfold wFdv at h
  split at h
  · exact ⟨_, _, rw_int rx, rw_int ry, h.1, l.now h.2 m (.int _)⟩
  · exact h.elim
theorem opU_mod : OpR X (binaryOp .Mod) (rW X.K wMod) := opR_imp op_mod fun x y H Q h => by
  obtain ⟨wx, wy, μ, P, rx, ry, m, h, l⟩ := h
  unfold wMod at h
  split at h
  · exact ⟨_, _, rw_int rx, rw_int ry, h.1, l.now h.2 m (.int _)⟩
  · exact h.elim
theorem opU_pow : OpR X (binaryOp .Pow) (rW X.K wPow) := opR_imp op_pow fun x y H Q h => by
  obtain ⟨wx, wy, μ, P, rx, ry, m, h, l⟩ := h
  unfold wPow at h
  split at h
  · exact ⟨_, _, rw_int rx, rw_int ry, h.1, l.now h.2 m (.int _)⟩
  · exact h.elim
theorem unU_neg : UnR X (unaryOp .USub) (rW1 X.K wNeg) := unR_imp un_neg fun x H Q h => by
  obtain ⟨wx, μ, P, rx, m, h, l⟩ := h
  unfold wNeg at h
  split at h
  · exact ⟨_, rw_int rx, l.now h m (.int _)⟩
  · exact h.elim
theorem opU_lt : OpR X (compareOp .Lt) (rW X.K wLt) := opR_imp (op_lt.or op_lt_str) fun x y H Q h => by
  obtain ⟨wx, wy, μ, P, rx, ry, m, h, l⟩ := h
  unfold wLt at h
  split at h
  · split at h
    · exact .inl ⟨_, _, rw_int rx, rw_int ry, l.now h m (.bl _)⟩
    · exact h.elim
  · split at h
    · exact .inr ⟨_, _, rw_str rx, rw_str ry, l.now h m (.bl _)⟩
    · exact h.elim
  · exact h.elim
theorem opU_le : OpR X (compareOp .LtE) (rW X.K wLe) := opR_imp (op_le.or op_le_str) fun x y H Q h => by
  obtain ⟨wx, wy, μ, P, rx, ry, m, h, l⟩ := h
  unfold wLe at h
  split at h
  · split at h
    · exact .inl ⟨_, _, rw_int rx, rw_int ry, l.now h m (.bl _)⟩
    · exact h.elim
  · split at h
    · exact .inr ⟨_, _, rw_str rx, rw_str ry, l.now h m (.bl _)⟩
    · exact h.elim
  · exact h.elim
theorem opU_gt : OpR X (compareOp .Gt) (rW X.K wGt) := opR_imp (op_gt.or op_gt_str) fun x y H Q h => by
  obtain ⟨wx, wy, μ, P, rx, ry, m, h, l⟩ := h
  unfold wGt at h
  split at h
  · split at h
    · exact .inl ⟨_, _, rw_int rx, rw_int ry, l.now h m (.bl _)⟩
    · exact h.elim
  · split at h
    · exact .inr ⟨_, _, rw_str rx, rw_str ry, l.now h m (.bl _)⟩
    · exact h.elim
  · exact h.elim
theorem opU_ge : OpR X (compareOp .GtE) (rW X.K wGe) := opR_imp (op_ge.or op_ge_str) fun x y H Q h => by
  obtain ⟨wx, wy, μ, P, rx, ry, m, h, l⟩ := h
  unfold wGe at h
  split at h
  · split at h
    · exact .inl ⟨_, _, rw_int rx, rw_int ry, l.now h m (.bl _)⟩
    · exact h.elim
  · split at h
    · exact .inr ⟨_, _, rw_str rx, rw_str ry, l.now h m (.bl _)⟩
    · exact h.elim
  · exact h.elim
theorem drf_dq {K : Frag} {H : Hp} {μ : Mu} {n : Nat} {v : V} {w : W} (r : Rw K H μ v w) (m : Mem K H μ) (d : isD n (drf μ w) = true) : Dq K H v (drf μ w) := by
  cases w with
  | ref p =>
    cases r
    cases e : μ p with
    | none => simp only [drf, e] at d; cases n <;> cases d
    | some o =>
      cases o with
      | ls ws =>
        simp only [drf, e] at d ⊢
        obtain ⟨vs, h1, h2⟩ := m _ _ e
        cases n with
        | zero => cases d
        | succ n => exact .lst (.inl (.inl h1)) (dqs_of h2 d)
      | _ => simp only [drf, e] at d; cases n <;> cases d
  | rol ws =>
    cases r with
    | rol h hs => cases n with
      | zero => cases d
      | succ n => exact .lst (.inl h.1) (dqs_of hs d)
  | _ => exact dq_of r d
theorem decV_int (i j : Int) : decide (V.int i = V.int j) = decide (i = j) := by simp only [V.int.injEq]
theorem decV_str (i j : Str) : decide (V.str i = V.str j) = decide (i = j) := by simp only [V.str.injEq]
theorem decV_bl (i j : Bool) : decide (V.bl i = V.bl j) = decide (i = j) := by simp only [V.bl.injEq]
theorem eq_gen {neg : Bool} {x y : W} {μ : Mu} {P : Po} {H : Hp} {v u : V} {Q : VK} (h : wEqG neg x y μ P) (rx : Rw X.K H μ v x) (ry : Rw X.K H μ u y) (m : Mem X.K H μ) (l : VL X.K Q μ H P) : rEqQ X.K neg v u H Q :=
  ⟨_, _, drf_dq rx m h.1, drf_dq ry m h.2.1, h.1, h.2.1, l.now h.2.2 m (.bl _)⟩
theorem opU_eq (hu : X.A.units + 64 < cLine) : OpR X (compareOp .Eq) (rW X.K wEq) := opR_imp (op_eq.or (op_eqQ hu)) fun x y H Q h => by
  obtain ⟨wx, wy, μ, P, rx, ry, m, h, l⟩ := h
  unfold wEq at h
  split at h
  · split at h
    · cases rx
      cases ry
      exact .inl ⟨rfl, by rw [decV_int]; exact l.now h m (.bl _)⟩
    · exact .inr (eq_gen h rx ry m l)
  · split at h
    · cases rx
      cases ry
      exact .inl ⟨rfl, by rw [decV_str]; exact l.now h m (.bl _)⟩
    · exact .inr (eq_gen h rx ry m l)
  · split at h
    · cases rx
      cases ry
      exact .inl ⟨rfl, by rw [decV_bl]; exact l.now h m (.bl _)⟩
    · exact .inr (eq_gen h rx ry m l)
  · exact .inr (eq_gen h rx ry m l)
theorem opU_ne (hu : X.A.units + 64 < cLine) : OpR X (compareOp .NotEq) (rW X.K wNe) := opR_imp (op_ne.or (op_neQ hu)) fun x y H Q h => by
  obtain ⟨wx, wy, μ, P, rx, ry, m, h, l⟩ := h
  unfold wNe at h
  split at h
  · split at h
    · cases rx
      cases ry
      exact .inl ⟨rfl, by rw [decV_int]; exact l.now h m (.bl _)⟩
    · exact .inr (eq_gen h rx ry m l)
  · split at h
    · cases rx
      cases ry
      exact .inl ⟨rfl, by rw [decV_str]; exact l.now h m (.bl _)⟩
    · exact .inr (eq_gen h rx ry m l)
  · split at h
    · cases rx
      cases ry
      exact .inl ⟨rfl, by rw [decV_bl]; exact l.now h m (.bl _)⟩
    · exact .inr (eq_gen h rx ry m l)
  · exact .inr (eq_gen h rx ry m l)
theorem isN_rw {K : Frag} {H : Hp} {μ : Mu} {v : V} {w : W} (h : Rw K H μ v w) : decide (v = .non) = isN w := by cases h <;> rfl
theorem opU_is : OpR X (compareOp .Is) (rW X.K wIs) := opR_imp (op_isN.or op_isBl) fun x y H Q h => by
  obtain ⟨wx, wy, μ, P, rx, ry, m, h, l⟩ := h
  unfold wIs at h
  split at h
  · cases ry
    exact .inl ⟨rfl, by rw [isN_rw rx]; exact l.now h m (.bl _)⟩
  · split at h
    · cases rx
      cases ry
      exact .inr ⟨_, _, rfl, rfl, l.now h m (.bl _)⟩
    · exact h.elim
  · exact h.elim
theorem opU_isnt : OpR X (compareOp .IsNot) (rW X.K wIsnt) := opR_imp (op_notN.or op_notBl) fun x y H Q h => by
  obtain ⟨wx, wy, μ, P, rx, ry, m, h, l⟩ := h
  unfold wIsnt at h
  split at h
  · cases ry
    exact .inl ⟨rfl, by rw [isN_rw rx]; exact l.now h m (.bl _)⟩
  · split at h
    · cases rx
      cases ry
      exact .inr ⟨_, _, rfl, rfl, l.now h m (.bl _)⟩
    · exact h.elim
  · exact h.elim
end
/-! dicts by their keys -/
def valW {κ : Type} [DecidableEq κ] (kvs : List (κ × W)) (k : κ) : Option W := (kvs.find? fun kv => decide (kv.1 = k)).map (·.2)
def putW {κ : Type} [DecidableEq κ] (kvs : List (κ × W)) (k : κ) (v : W) : List (κ × W) :=
  if (kvs.any fun kv => decide (kv.1 = k)) = true then kvs.map (fun kv => if kv.1 = k then (kv.1, v) else kv) else kvs ++ [(k, v)]
def dropW {κ : Type} [DecidableEq κ] (kvs : List (κ × W)) (k : κ) : List (κ × W) := kvs.filter fun kv => decide (kv.1 ≠ k)
theorem rwp_any {K : Frag} {H : Hp} {μ : Mu} {κ : Type} [DecidableEq κ] {k : κ} : ∀ {kv : List (κ × V)} {kw : List (κ × W)}, RwP K H μ kv kw → (kv.any fun p => decide (p.1 = k)) = (kw.any fun p => decide (p.1 = k))
  | _, _, .nil => rfl
  | _, _, .cons h hs => by
    rw [List.any_cons, List.any_cons, rwp_any hs]
theorem rwp_val {K : Frag} {H : Hp} {μ : Mu} {κ : Type} [DecidableEq κ] {k : κ} : ∀ {kv : List (κ × V)} {kw : List (κ × W)}, RwP K H μ kv kw → (valW kw k = none → valV kv k = none) ∧ ∀ w, valW kw k = some w → ∃ v, valV kv k = some v ∧ Rw K H μ v w
  | _, _, .nil => ⟨fun _ => rfl, fun w e => by cases e⟩
  | _, _, @RwP.cons _ _ _ _ q v vs w ws h hs => by
    unfold valW valV
    rw [List.find?_cons, List.find?_cons]
    have ih := rwp_val (k := k) hs
    unfold valW valV at ih
    cases hd : decide (q = k) with
    | true =>
      refine ⟨fun e => (by cases e), fun w' e => ?_⟩
      cases e
      exact ⟨_, rfl, h⟩
    | false => exact ih
theorem rwp_map {K : Frag} {H : Hp} {μ : Mu} {κ : Type} [DecidableEq κ] {k : κ} {x : V} {y : W} (hv : Rw K H μ x y) : ∀ {kv : List (κ × V)} {kw : List (κ × W)}, RwP K H μ kv kw → RwP K H μ (kv.map fun p => if p.1 = k then (p.1, x) else p) (kw.map fun p => if p.1 = k then (p.1, y) else p)
  | _, _, .nil => .nil
  | _, _, @RwP.cons _ _ _ _ q v vs w ws h hs => by
    rw [List.map_cons, List.map_cons]
    by_cases c : q = k
    · rw [if_pos c, if_pos c]
      exact .cons hv (rwp_map hv hs)
    · rw [if_neg c, if_neg c]
      exact .cons h (rwp_map hv hs)
theorem rwp_app {K : Frag} {H : Hp} {μ : Mu} {κ : Type} : ∀ {kv ku : List (κ × V)} {kw kz : List (κ × W)}, RwP K H μ kv kw → RwP K H μ ku kz → RwP K H μ (kv ++ ku) (kw ++ kz)
  | _, _, _, _, .nil, g => g
  | _, _, _, _, .cons h hs, g => .cons h (rwp_app hs g)
theorem rwp_put {K : Frag} {H : Hp} {μ : Mu} {κ : Type} [DecidableEq κ] {k : κ} {x : V} {y : W} (hv : Rw K H μ x y) {kv : List (κ × V)} {kw : List (κ × W)} (h : RwP K H μ kv kw) : RwP K H μ (putK kv k x) (putW kw k y) := by
  unfold putK putW
  rw [rwp_any h]
  split
  · exact rwp_map hv h
  · exact rwp_app h (.cons hv .nil)
theorem rwp_drop {K : Frag} {H : Hp} {μ : Mu} {κ : Type} [DecidableEq κ] {k : κ} : ∀ {kv : List (κ × V)} {kw : List (κ × W)}, RwP K H μ kv kw → RwP K H μ (dropK kv k) (dropW kw k)
  | _, _, .nil => .nil
  | _, _, @RwP.cons _ _ _ _ q v vs w ws h hs => by
    unfold dropK dropW
    rw [List.filter_cons, List.filter_cons]
    have ih := rwp_drop (k := k) hs
    unfold dropK dropW at ih
    split
    · exact .cons h ih
    · exact ih
/-- a value as a key -/
@[reducible] def kO (w : W) : Option Key := match w with
  | .int i => some (.inl i)
  | .str x => some (.inr x)
  | _ => none
theorem kO_rw {K : Frag} {H : Hp} {μ : Mu} {v : V} {w : W} {k : Key} (h : Rw K H μ v w) (e : kO w = some k) : v = kV k := by
  cases w <;> cases e <;> (cases h; rfl)
/-- what a dict holds -/
@[reducible] def rdD (μ : Mu) (w : W) : Option (List (Key × W)) := match w with
  | .ref a => (match μ a with
    | some (.dk kvs) => some kvs
    | some (.rk kvs) => some kvs
    | _ => none)
  | _ => none
theorem rdD_at {K : Frag} {H : Hp} {μ : Mu} {v : V} {w : W} {kvs : List (Key × W)} (h : rdD μ w = some kvs) (r : Rw K H μ v w) (m : Mem K H μ) : ∃ a kv, v = .ref a ∧ Rd H a (.dK kv) ∧ RwP K H μ kv kvs := by
  cases w with
  | ref a =>
    cases r
    cases e : μ a with
    | none => simp only [rdD, e] at h; cases h
    | some o =>
      cases o with
      | dk kvs' =>
        simp only [rdD, e] at h
        cases h
        obtain ⟨kv, h1, h2⟩ := m _ _ e
        exact ⟨a, kv, rfl, .inl h1, h2⟩
      | rk kvs' =>
        simp only [rdD, e] at h
        cases h
        obtain ⟨o, kv, h1, h2⟩ := m _ _ e
        exact ⟨a, kv, rfl, .inr ⟨o, h1⟩, h2⟩
      | _ => simp only [rdD, e] at h; cases h
  | _ => cases h
end Q
namespace Q
open PySem L2 Evl
/-! in, subscripts, slices, attributes -/
@[reducible] def rdS (μ : Mu) (w : W) : Option (List W) := match w with
  | .tup ws => some ws
  | w => rdL μ w
theorem rdS_at {K : Frag} {H : Hp} {μ : Mu} {v : V} {w : W} {ws : List W} (h : rdS μ w = some ws) (r : Rw K H μ v w) (m : Mem K H μ) : ∃ a vs, v = .ref a ∧ (SqL K H a vs ∨ SqT K H a vs) ∧ RwAll K H μ vs ws := by
  unfold rdS at h
  split at h
  · cases h
    cases r with
    | tup q hs => exact ⟨_, _, rfl, .inr (tup_sq q), hs⟩
  · obtain ⟨a, vs, e, q, hs⟩ := rdL_at h r m
    exact ⟨a, vs, e, .inl q, hs⟩
/-- one sign -/
@[reducible] def sg (a : Str) : Option Nat := match a.cps.toList with
  | [c] => some c
  | _ => none
theorem sg_is {a : Str} {c : Nat} (h : sg a = some c) : a = ⟨#[c]⟩ := by
  unfold sg at h
  split at h
  · rename_i c' e
    cases h
    obtain ⟨cps⟩ := a
    congr 1
    exact Array.toList_inj.mp e
  · cases h
@[reducible] def wInG (neg : Bool) : F2 := fun x y μ P => match y with
  | .str z => (match x with
    | .str a => (match sg a with
      | some c => P (.bl (if neg then !decide (c ∈ z.cps.toList) else decide (c ∈ z.cps.toList))) μ
      | none => False)
    | _ => False)
  | y => (match rdD μ y with
    | some kvs => (match kO x with
      | some k => P (.bl (if neg then !(valW kvs k).isSome else (valW kvs k).isSome)) μ
      | none => False)
    | none => (match rdS μ y with
      | some ws => isD 58 x = true ∧ isDs 58 ws = true ∧ P (.bl (if neg then !(ws.any fun z => eqW z x) else ws.any fun z => eqW z x)) μ
      | none => False))
@[reducible] def wIn : F2 := wInG false
@[reducible] def wNin : F2 := wInG true
def rDin (neg : Bool) : R2 := fun y x H Q => ∃ a o, x = .ref a ∧ DGet H a y o ∧ Q (.bl (if neg then !o.isSome else o.isSome)) H
section
variable {X : Cx}
theorem op_dIn (hu : X.A.units + 64 < cLine) : OpR X (compareOp .In) (rDin false) := by
  intro pins s σ H y x v u Q I ry rx h
  obtain ⟨a, o, rfl, g, q⟩ := h
  cases rx
  exact d_in (by omega) I g ry fun s' I' => ⟨.bl o.isSome, H, I', rfl, q⟩
theorem op_dNin (hu : X.A.units + 64 < cLine) : OpR X (compareOp .NotIn) (rDin true) := by
  intro pins s σ H y x v u Q I ry rx h
  obtain ⟨a, o, rfl, g, q⟩ := h
  cases rx
  exact d_notIn (by omega) I g ry fun s' I' => ⟨.bl (!o.isSome), H, I', rfl, q⟩
theorem dget_of {K : Frag} {H : Hp} {μ : Mu} {a : Addr} {kv : List (Key × V)} {k : Key} (h : Rd H a (.dK kv)) : DGet H a (kV k) (valV kv k) := .inl ⟨kv, k, h, rfl, rfl⟩
theorem in_gen {neg : Bool} {K : Frag} {x y : V} {H : Hp} {Q : VK} (h : rW K (wInG neg) x y H Q) : (∃ (c : Nat) (z : Str), x = .str ⟨#[c]⟩ ∧ y = .str z ∧ Q (.bl (if neg then !decide (c ∈ z.cps.toList) else decide (c ∈ z.cps.toList))) H) ∨ rDin neg x y H Q ∨ rInQ K neg x y H Q := by
  obtain ⟨wx, wy, μ, P, rx, ry, m, h, l⟩ := h
  unfold wInG at h
  split at h
  · split at h
    · split at h
      · rename_i c e
        have e2 := sg_is e
        subst e2
        exact .inl ⟨c, _, rw_str rx, rw_str ry, l.now h m (.bl _)⟩
      · exact h.elim
    · exact h.elim
  · split at h
    · rename_i kvs e
      obtain ⟨a, kv, rfl, hd, r⟩ := rdD_at e ry m
      split at h
      · rename_i k ek
        have ex := kO_rw rx ek
        subst ex
        refine .inr (.inl ⟨a, _, rfl, dget_of (K := K) (μ := μ) hd, ?_⟩)
        have e3 : (valV kv k).isSome = (valW kvs k).isSome := by
          cases f : valW kvs k with
          | none => rw [(rwp_val r).1 f] <;> rfl
          | some w =>
            obtain ⟨u, f1, _⟩ := (rwp_val r).2 w f
            rw [f1] <;> rfl
        rw [e3]
        exact l.now h m (.bl _)
      · exact h.elim
    · split at h
      · rename_i ws e
        obtain ⟨a, vs, rfl, q, r⟩ := rdS_at e ry m
        exact .inr (.inr ⟨58, a, vs, wx, ws, by decide, rfl, q, dq_of rx h.1, h.1, dqs_of r h.2.1, h.2.1, l.now h.2.2 m (.bl _)⟩)
      · exact h.elim
theorem opU_in (hu : X.A.units + 64 < cLine) : OpR X (compareOp .In) (rW X.K wIn) := opR_imp (op_in_sign.or ((op_dIn hu).or (op_inQ hu))) fun x y H Q h => in_gen (neg := false) h
theorem opU_nin (hu : X.A.units + 64 < cLine) : OpR X (compareOp .NotIn) (rW X.K wNin) := opR_imp (op_notIn_sign.or ((op_dNin hu).or (op_notInQ hu))) fun x y H Q h => in_gen (neg := true) h
end
/-! a[b] -/
/-- the item at i, counted from the end where i is negative; sealed: nothing opens it but pick_def -/
noncomputable def pickS (α : Type) : { f : List α → Int → Option α // f = atI } := Classical.choice ⟨⟨_, rfl⟩⟩
noncomputable def pick {α : Type} (xs : List α) (i : Int) : Option α := (pickS α).1 xs i
theorem pick_def {α : Type} (xs : List α) (i : Int) : pick xs i = atI xs i := by
  unfold pick
  rw [(pickS α).2]
theorem pick_nat {α : Type} {xs : List α} {i : Int} {x : α} (h0 : 0 ≤ i) (h : xs[i.toNat]? = some x) : pick xs i = some x := by
  have := atI_nat h
  rw [show ((i.toNat : Nat) : Int) = i by omega] at this
  rw [pick_def]
  exact this
theorem pick_last {α : Type} (xs : List α) (x : α) : pick (xs ++ [x]) (-1) = some x := (pick_def _ _).trans (atI_last xs x)
@[reducible] def wIx : F2 := fun x y μ P => match x with
  | .tup ws => (match y with
    | .int i => (match pick ws i with
      | some w => P w μ
      | none => False)
    | _ => False)
  | .str z => (match y with
    | .int i => z.length ≤ 16000000 ∧ (match pick z.cps.toList i with
      | some c => P (.str ⟨#[c]⟩) μ
      | none => False)
    | _ => False)
  | x => (match rdL μ x with
    | some ws => (match y with
      | .int i => (match pick ws i with
        | some w => P w μ
        | none => False)
      | _ => False)
    | none => (match rdD μ x with
      | some kvs => (match kO y with
        | some k => (match valW kvs k with
          | some w => P w μ
          | none => False)
        | none => False)
      | none => False))
def rDix : R2 := fun x y H Q => ∃ a v, x = .ref a ∧ DGet H a y (some v) ∧ Q v H
section
variable {X : Cx} {E : L2.St → XK}
theorem ix_dict (hu : X.A.units + 64 < cLine) : IxR X rDix := by
  intro value slice pins s σ H x y v u Q I rx ry h hs
  obtain ⟨a, z, rfl, g, q⟩ := h
  cases rx
  exact PyProof.Rows.tail_any (dict_typeIs I g) PySem.F.slot_dict_getitem.lookup (d_getItem (by omega) I g ry fun w' s' I' r' => ⟨z, H, I', r', q⟩) hs
theorem ixU (hu : X.A.units + 64 < cLine) : IxR X (rW X.K wIx) := by
  intro value slice pins s σ H x y v u Q I rx ry h hs
  refine (ix_seq.or (ix_dict hu)) value slice pins s σ H x y v u Q I rx ry ?_ hs
  obtain ⟨wx, wy, μ, P, rx, ry, m, h, l⟩ := h
  unfold wIx at h
  split at h
  · split at h
    · split at h
      · rename_i w e
        cases rx with
        | tup q hs =>
          rw [pick_def] at e
          unfold atI at e
          obtain ⟨j, e1, e2⟩ := Option.bind_eq_some_iff.mp e
          obtain ⟨v, e3, e4⟩ := RwAll.at j hs e2
          exact .inl (.inr (.inl ⟨_, _, _, v, rfl, rw_int ry, tup_sq q, by unfold atI; rw [hs.len, e1]; exact e3, l.now h m e4⟩))
      · exact h.elim
    · exact h.elim
  · split at h
    · obtain ⟨hz, h⟩ := h
      split at h
      · rename_i c e
        exact .inl (.inr (.inr ⟨_, _, c, rw_str rx, rw_int ry, big hz, (pick_def _ _).symm.trans e, l.now h m (.str _)⟩))
      · exact h.elim
    · exact h.elim
  · split at h
    · rename_i ws ex
      obtain ⟨a, vs, rfl, hq, hs⟩ := rdL_at ex rx m
      split at h
      · split at h
        · rename_i w e
          rw [pick_def] at e
          unfold atI at e
          obtain ⟨j, e1, e2⟩ := Option.bind_eq_some_iff.mp e
          obtain ⟨v, e3, e4⟩ := RwAll.at j hs e2
          exact .inl (.inl ⟨_, _, _, v, rfl, rw_int ry, hq, by unfold atI; rw [hs.len, e1]; exact e3, l.now h m e4⟩)
        · exact h.elim
      · exact h.elim
    · split at h
      · rename_i kvs ex
        obtain ⟨a, kv, rfl, hd, r⟩ := rdD_at ex rx m
        split at h
        · rename_i k ek
          have e2 := kO_rw ry ek
          subst e2
          split at h
          · rename_i w e
            obtain ⟨u, f1, f2⟩ := (rwp_val r).2 w e
            refine .inr ⟨a, u, rfl, ?_, l.now h m f2⟩
            rw [← f1]
            exact dget_of (K := X.K) (μ := μ) hd
          · exact h.elim
        · exact h.elim
      · exact h.elim
theorem qe_ix {a b : Expr} {fa fb : FE} {pos : Pos} (hu : X.A.units + 64 < cLine) (ha : QE X E a fa) (hb : QE X E b fb) (hs : PlainIx b) : QE X E (.Subscript a b pos) (eOp wIx fa fb) := ⟨(pe_ix (ixU hu) ha.pe hb.pe hs).qimp fun σ H Q h => tE_two (fun _ _ _ _ h => h) h⟩
/-! slices -/
abbrev FO := Rho → Mu → (Option Int → Mu → Prop) → Xo → Prop
@[reducible] def foN : FO := fun _ μ P _ => P none μ
@[reducible] def foS (e : FE) : FO := fun ρ μ P X => e ρ μ (fun w μ1 => match w with
  | .int i => P (some i) μ1
  | _ => False) X
def tO (K : Frag) (E : L2.St → XK) (f : FO) : TO := fun σ H Q => ∃ ρ μ P X, Holds K H μ σ ρ ∧ Mem K H μ ∧ f ρ μ P X ∧ (∀ o μ' H', P o μ' → Stp μ H μ' H' → Mem K H' μ' → Q o H') ∧ XL K (E σ) μ H X
structure QO (X : Cx) (E : L2.St → XK) (e : Option Expr) (f : FO) : Prop where
  po : PO X e (tO X.K E f)
theorem PO.qimp {X : Cx} {e : Option Expr} {t t' : TO} (h : PO X e t) (k : ∀ σ H Q, t' σ H Q → t σ H Q) : PO X e t' := by
  obtain ⟨h⟩ := h
  exact ⟨fun pins s σ H Q I q => h pins s σ H Q I (k σ H Q q)⟩
theorem qo_none : QO X E none foN := ⟨PO.qimp po_none fun σ H Q h => by
  obtain ⟨ρ, μ, P, XX, hh, hm, hf, hv, hx⟩ := h
  exact hv none μ H hf (Stp.refl μ H) hm⟩
theorem qo_some {e : Expr} {f : FE} (h : QE X E e f) : QO X E (some e) (foS f) := ⟨PO.qimp (po_some h.pe) fun σ H Q h => by
  obtain ⟨ρ, μ, P, XX, hh, hm, hf, hv, hx⟩ := h
  exact ⟨ρ, μ, _, XX, hh, hm, hf, fun w μ1 v H1 p1 e1 m1 r1 => by
    dsimp only at p1
    split at p1
    · exact ⟨_, rw_int r1, hv _ μ1 H1 p1 e1 m1⟩
    · exact p1.elim, hx⟩⟩
def cutL {α : Type} (xs : List α) (lo hi : Option Int) : List α := (xs.drop (HT.sIx xs.length 0 lo)).take (HT.sIx xs.length xs.length hi - HT.sIx xs.length 0 lo)
theorem cut_rw {K : Frag} {H : Hp} {μ : Mu} {vs : List V} {ws : List W} (h : RwAll K H μ vs ws) (lo hi : Option Int) : RwAll K H μ (cutV vs lo hi) (cutL ws lo hi) := by
  unfold cutV cutL
  rw [h.len]
  exact (h.drop _).take _
@[reducible] def wSl (x : W) (lo hi : Option Int) (μ : Mu) (P : Po) : Prop := match x with
  | .str z => z.length ≤ 16000000 ∧ P (.str (cutS z lo hi)) μ
  | .tup ws => P (.tup (cutL ws lo hi)) μ
  | x => (match rdL μ x with
    | some ws => P (.lst (cutL ws lo hi)) μ
    | none => False)
@[reducible] def eSl (a : FE) (lo hi : FO) : FE := fun ρ μ P X => a ρ μ (fun x μ1 => lo ρ μ1 (fun l μ2 => hi ρ μ2 (fun h μ3 => wSl x l h μ3 P) X) X) X
theorem qe_sl {e : Expr} {lo hi : Option Expr} {fa : FE} {fl fh : FO} {p2 pos : Pos} (he : QE X E e fa) (hl : QO X E lo fl) (hu : QO X E hi fh) : QE X E (.Subscript e (.Slice lo hi none p2) pos) (eSl fa fl fh) :=
  ⟨(pe_slice (sl_list.or (sl_str.or sl_tupA)) he.pe hl.po hu.po).qimp fun σ H Q h => by
  obtain ⟨ρ, μ, P, XX, hh, hm, hf, hv, hx⟩ := h
  refine ⟨ρ, μ, _, XX, hh, hm, hf, fun x μ1 v H1 p1 e1 m1 r1 => ⟨ρ, μ1, _, XX, hh.stp e1, m1, p1, fun l μ2 H2 p2 e2 m2 => ⟨ρ, μ2, _, XX, hh.stp (e1.trans e2), m2, p2, fun h μ3 H3 p3 e3 m3 => ?_, hx.stp (e1.trans e2)⟩, hx.stp e1⟩, hx⟩
  have r3 := r1.stp (e2.trans e3)
  have hv3 : VL X.K Q μ3 H3 P := fun w μ' v' H' p e => hv w μ' v' H' p (((e1.trans e2).trans e3).trans e)
  unfold wSl at p3
  split at p3
  · exact .inr (.inl ⟨_, rw_str r3, big p3.1, hv3.now p3.2 m3 (.str _)⟩)
  · cases r3 with
    | @tup a vs _ q hs =>
      refine .inr (.inr ⟨_, _, rfl, tup_sq q, fun w => ?_, fun _ p hp => hv3.tup p3 m3 (cut_rw hs l h) hp⟩)
      have full : ∀ us : List W, vs.length = us.length → cutL us l h = us := fun us e => by
        unfold cutL
        rw [← e, w.1, w.2, List.drop_zero, Nat.sub_zero, e, List.take_length]
      rw [full _ hs.len] at p3
      exact hv3.now p3 m3 (.tup q hs)
  · split at p3
    · rename_i ws ex
      obtain ⟨a, vs, rfl, hq, hs⟩ := rdL_at ex r3 m3
      exact .inl ⟨a, vs, rfl, hq, fun p hp => hv3.lst p3 m3 (cut_rw hs l h) hp⟩
    · exact p3.elim⟩
/-! attributes -/
def lk {β : Type} (f : Str) : List (Str × β) → Option β
  | [] => none
  | (g, x) :: r => if f = g then some x else lk f r
theorem lk_lookup {β : Type} (f : Str) : ∀ fs : List (Str × β), fs.lookup f = lk f fs
  | [] => rfl
  | (g, x) :: r => by
    rw [List.lookup_cons]
    unfold lk
    by_cases h : f = g
    · rw [if_pos h, beq_iff_eq.mpr h]
    · rw [if_neg h, beq_eq_false_iff_ne.mpr h]
      exact lk_lookup f r
theorem rwp_lk {K : Frag} {H : Hp} {μ : Mu} {f : Str} : ∀ {fv : List (Str × V)} {fs : List (Str × W)}, RwP K H μ fv fs → (lk f fs = none → fv.lookup f = none) ∧ ∀ w, lk f fs = some w → ∃ v, fv.lookup f = some v ∧ Rw K H μ v w
  | _, _, .nil => ⟨fun _ => rfl, fun w e => by cases e⟩
  | _, _, @RwP.cons _ _ _ _ q v vs w ws h hs => by
    rw [lk_lookup]
    unfold lk
    have ih := rwp_lk (f := f) hs
    rw [lk_lookup] at ih
    by_cases c : f = q
    · rw [if_pos c, if_pos c]
      refine ⟨fun e => ?_, fun w' e => ?_⟩
      · cases e
      · cases e
        exact ⟨_, rfl, h⟩
    · rw [if_neg c, if_neg c]
      exact ih
def pf (f : Str) (w : W) : List (Str × W) → List (Str × W)
  | [] => [(f, w)]
  | (g, x) :: r => if g = f then (g, w) :: r else (g, x) :: pf f w r
theorem rwp_pf {K : Frag} {H : Hp} {μ : Mu} {f : Str} {v : V} {w : W} (hv : Rw K H μ v w) : ∀ {fv : List (Str × V)} {fs : List (Str × W)}, RwP K H μ fv fs → RwP K H μ (putF f v fv) (pf f w fs)
  | _, _, .nil => .cons hv .nil
  | _, _, @RwP.cons _ _ _ _ q u vs x ws h hs => by
    unfold putF pf
    by_cases c : q = f
    · rw [if_pos c, if_pos c]
      exact .cons hv hs
    · rw [if_neg c, if_neg c]
      exact .cons h (rwp_pf hv hs)
/-- o.f of one of the classes cs -/
@[reducible] def wFld (cs : List Str) (f : Str) : F1 := fun x μ P => match x with
  | .ref a => (match μ a with
    | some (.ins c fs) => c ∈ cs ∧ (match lk f fs with
      | some w => P w μ
      | none => False)
    | _ => False)
  | _ => False
@[reducible] def eFld (cs : List Str) (o : FE) (f : Str) : FE := eUn (wFld cs f) o
theorem ins_at {K : Frag} {H : Hp} {μ : Mu} {a : Addr} {c : Str} {fs : List (Str × W)} (m : Mem K H μ) (h : μ a = some (.ins c fs)) : ∃ dx fv, H a = some (.ins (He.ga K c) dx fv) ∧ RwP K H μ fv fs := m a _ h
theorem qe_fld {o : Expr} {f : Str} {fo : FE} {cs : List Str} {pos : Pos} (hc : ∀ c ∈ cs, Cls X.K (He.ga X.K c) ∧ NoAttr X.K (He.ga X.K c) f) (he : QE X E o fo) (hb : attributeBase o f X.env (eval o X.env) = eval o X.env) : QE X E (.Attribute o f pos) (eFld cs fo f) := ⟨(pe_fld he.pe hb).qimp fun σ H Q h => by
  obtain ⟨ρ, μ, P, XX, hh, hm, hf, hv, hx⟩ := h
  refine ⟨ρ, μ, _, XX, hh, hm, hf, fun x μ1 v H1 p1 e1 m1 r1 => ?_, hx⟩
  dsimp only [wFld] at p1
  split at p1
  · split at p1
    · rename_i a _ c fs e
      obtain ⟨hcs, p1⟩ := p1
      cases r1
      obtain ⟨dx, fv, ha, r⟩ := ins_at m1 e
      split at p1
      · rename_i w ew
        obtain ⟨v, e2, r2⟩ := (rwp_lk r).2 w ew
        exact ⟨a, _, dx, fv, v, rfl, ha, (hc c hcs).1, (hc c hcs).2, e2, hv w μ1 v H1 p1 e1 m1 r2⟩
      · exact p1.elim
    · exact p1.elim
  · exact p1.elim⟩
@[reducible] def sFld (cs : List Str) (o : FE) (f : Str) (e : FE) : FS := fun ρ μ N => e ρ μ (fun w μ1 => o ρ μ1 (fun x μ2 => match x with
  | .ref a => (match μ2 a with
    | some (.ins c fs) => c ∈ cs ∧ fs.length ≤ 900 ∧ N.nx ρ (mset μ2 a (.ins c (pf f w fs)))
    | _ => False)
  | _ => False) (N.ex ρ)) (N.ex ρ)
theorem qs_fld {o e : Expr} {f : Str} {fo fe : FE} {cs : List Str} {pos pos' : Pos} (hc : ∀ c ∈ cs, Cls X.K (He.ga X.K c) ∧ NoAttr X.K (He.ga X.K c) f) (ho : QE X E o fo) (he : QE X E e fe) (hs : swapsWith e (some (.Attribute o f pos')) pos.line X.env = pure false := by rfl) : QS X E (.Assign [.Attribute o f pos'] e pos) (sFld cs fo f fe) := ⟨(ps_fld ho.pe he.pe hs).qimp fun D σ H h => by
  obtain ⟨ρ, μ, N, hh, hm, hf, l⟩ := h
  refine ⟨ρ, μ, _, _, hh, hm, hf, fun w μ1 v H1 p1 e1 m1 r1 => ⟨ρ, μ1, _, _, hh.stp e1, m1, p1, fun x μ2 u H2 p2 e2 m2 r2 => ?_, (l.stp e1).xl (hh.stp e1)⟩, l.xl hh⟩
  dsimp only at p2
  split at p2
  · split at p2
    · rename_i a _ c fs e
      obtain ⟨hcs, hl, p2⟩ := p2
      cases r2
      obtain ⟨dx, fv, ha, r⟩ := ins_at m2 e
      have ll := r.len
      have st : Stp μ2 H2 (mset μ2 a (.ins c (pf f w fs))) (upd H2 a (.ins (He.ga X.K c) dx (putF f v fv))) := Stp.put e (nf_ins ha)
      exact ⟨a, _, dx, fv, rfl, ha, (hc c hcs).1, (hc c hcs).2, by omega, l.nx ρ _ σ _ p2 ((e1.trans e2).trans st) (m2.put st ⟨dx, _, upd_same, (rwp_pf (r1.stp e2) r).stp st⟩) (hh.stp ((e1.trans e2).trans st))⟩
    · exact p2.elim
  · exact p2.elim⟩
end
end Q
namespace Q
open PySem L2 Evl
/-! defs: what a def does, as a function; calls -/
abbrev FW := List W → Mu → Po → Xo → Prop
/-- what a def hands back: it may forget, and lists that nobody else has become values -/
def Rt (P : Po) (w : W) (μ : Mu) : Prop := ∃ w' μ', Sub μ' μ ∧ Fz μ μ' w w' ∧ P w' μ'
theorem Rt.now {P : Po} {w : W} {μ : Mu} (h : P w μ) : Rt P w μ := ⟨w, μ, Sub.refl μ, .same w, h⟩
@[reducible] def rho0 : Nat → List W → Rho
  | 0, _ => []
  | n + 1, [] => none :: rho0 n []
  | n + 1, w :: ws => some w :: rho0 n ws
theorem rho0_nil : ∀ n, rho0 n [] = List.replicate n none
  | 0 => rfl
  | n + 1 => by
    show none :: rho0 n [] = _
    rw [rho0_nil n]
    rfl
theorem rho0_is : ∀ (n : Nat) (ws : List W), ws.length ≤ n → rho0 n ws = ws.map some ++ List.replicate (n - ws.length) none
  | n, [], _ => by
    rw [rho0_nil]
    rfl
  | 0, w :: ws, h => absurd h (Nat.not_succ_le_zero _)
  | n + 1, w :: ws, h => by
    show some w :: rho0 n ws = _
    rw [rho0_is n ws (Nat.le_of_succ_le_succ h), List.length_cons, Nat.add_sub_add_right]
    rfl
def fDef (np n : Nat) (fb : FS) : FW := fun ws μ P X => ws.length = np ∧ fb (rho0 n ws) μ ⟨fun _ μ' => Rt P .non μ', fun w μ' => Rt P w μ', fun _ _ => False, fun _ _ => False, fun _ c fs μ' => ∃ μ'', Sub μ'' μ' ∧ X c fs μ''⟩
def spF (K : Frag) (f : FW) : Sp := fun vs H Q E => ∃ ws μ P X, RwAll K H μ vs ws ∧ Mem K H μ ∧ f ws μ P X ∧ VL K Q μ H P ∧ XL K E μ H X
theorem Pay.sub {K : Frag} {H : Hp} {μ μ' : Mu} {d : Option Addr} {fs : List (Str × W)} (s : Sub μ' μ) (h : Pay K H μ d fs) : Pay K H μ' d fs := by
  cases h with
  | none => exact .none
  | some h n r => exact .some h (s.none n) (r.stp (s.stp H))
theorem el_def {K : Frag} {E : XK} {Q : VK} {μ : Mu} {H : Hp} {P : Po} {X : Xo} (v : VL K Q μ H P) (x : XL K E μ H X) :
    EL K (fun _ => E) ⟨fun σ H => Q .non H, Q, fun _ _ => False, fun _ _ => False⟩ μ H ⟨fun _ μ' => Rt P .non μ', fun w μ' => Rt P w μ', fun _ _ => False, fun _ _ => False, fun _ c fs μ' => ∃ μ'', Sub μ'' μ' ∧ X c fs μ''⟩ := by
  have ret : VL K Q μ H (fun w μ' => Rt P w μ') := fun w μ' u H' ⟨w', μ'', s, z, p⟩ e m r => v w' μ'' u H' p (e.trans (s.stp H')) (s.mem m) (z.rw s m r)
  exact ⟨fun ρ' μ' σ' H' n e m _ => ret .non μ' .non H' n e m .non, ret, fun _ _ _ _ n => n.elim, fun _ _ _ _ n => n.elim, fun ρ' c fs μ' d σ' H' ⟨μ'', s, n⟩ e m _ p => x c fs μ'' d H' n (e.trans (s.stp H')) (s.mem m) (p.sub s)⟩
section
variable {P : Program} {w : World} {K : Frag} {mg : Str → Option Value} {base : Heap}
abbrev FnM (K : Frag) (x qual : Str) (st : Stmt) (f : Addr) (fd : FuncData) : Prop := L2.FunD K x qual (defArgs st) (defBody st) (defScope st) [] [] f fd
theorem fn_q {x qual : Str} {st : Stmt} {f : Addr} {fd : FuncData} {N ps : List Str} {k : Nat} {fb : FS} (F : FnM K x qual st f fd) (S : FnScope N ps (defScope st)) (hl : ps.length ≤ N.length)
    (body : ∀ (cdv : Value) (A : Around) (outer : List PySem.Env) (s : Shared) (H : Hp) (E : XK), Room k (A.deeper (PyProof.Rows.envOfC qual (defScope st) s.heap.objs.size f cdv)) →
      QSs (cxOf (L2N.CX P w) P w K mg base N qual (defScope st) f cdv A outer s H E) (fun _ => E) (defBody st) fb) : FnOk P w K mg base (L2N.CX P w) (k + 1) f fd ps (spF K (fDef ps.length N.length fb)) := by
  refine L2.FunD.ok F S (fun vs H Q E h => ?_) (fun cdv A outer s H vs Q E hr h => ?_)
  · obtain ⟨ws, μ, Pq, X, h1, _, h2, _⟩ := h
    rw [h1.len]
    exact h2.1
  · obtain ⟨ws, μ, Pq, X, h1, hm, h2, v, x⟩ := h
    have h0 := Holds.start (N := N) h1
    rw [← rho0_is _ _ (by rw [h2.1]; exact hl)] at h0
    exact ⟨_, (body cdv A outer s H E hr).pss, _, μ, _, h0, hm, h2.2, el_def v x⟩
/-- a def, a method, a class with its __init__, by what they do -/
structure DefQ (P : Program) (w : World) (K : Frag) (mg : Str → Option Value) (base : Heap) (k : Nat) (x : Str) (ps : List Str) (f : FW) : Prop where
  ex : ∃ (a : Addr) (fd : FuncData), FnOk P w K mg base (L2N.CX P w) k a fd ps (spF K f) ∧ mg x = some (.ref a) ∧ PySem.W.keepIn K (.ref a) = true ∧ Binds K fd ps []
structure MetQ (P : Program) (w : World) (K : Frag) (mg : Str → Option Value) (base : Heap) (k : Nat) (x m : Str) (ps : List Str) (f : FW) : Prop where
  cls : Cls K (He.ga K x)
  ex : ∃ (a : Addr) (fd : FuncData), FnOk P w K mg base (L2N.CX P w) k a fd ps (spF K f) ∧ Meth K (He.ga K x) m a ∧ Binds K fd ps []
structure MakQ (P : Program) (w : World) (K : Frag) (mg : Str → Option Value) (base : Heap) (k : Nat) (x : Str) (ps : List Str) (f : FW) : Prop where
  g : mg x = some (.ref (He.ga K x))
  ex : ∃ (a : Addr) (fd : FuncData), FnOk P w K mg base (L2N.CX P w) k a fd ps (spF K f) ∧ Mk K (He.ga K x) a ∧ Binds K fd ps []
end
/-- what a body's exceptions may do -/
def Px (X : Cx) (E : L2.St → XK) : Prop := ∀ σ, PassesAt (L2N.CX X.prog X.w) X σ (E σ)
def EN : L2.St → XK := fun _ _ _ _ => False
@[reducible] def eCall (f : FW) (a : FA) : FE := fun ρ μ P X => a ρ μ (fun ws μ1 => f ws μ1 P X) X
section
variable {X : Cx} {E : L2.St → XK} {k : Nat} {x m : Str} {ps : List Str} {f : FW} {e o : Expr} {es : List Expr} {fo : FE} {fa : FA} {p pos apos : Pos}
theorem sp_now {K : Frag} {H : Hp} {μ : Mu} {vs : List V} {ws : List W} {P : Po} {Xx : Xo} {Q : VK} {Ek : XK} (r : RwAll K H μ vs ws) (m : Mem K H μ) (h : f ws μ P Xx) (v : VL K Q μ H P) (x : XL K Ek μ H Xx) : spF K f (vs ++ []) H Q Ek := by
  rw [List.append_nil]
  exact ⟨ws, μ, P, Xx, r, m, h, v, x⟩
theorem VL.stp {K : Frag} {Q : VK} {μ μ1 : Mu} {H H1 : Hp} {P : Po} (e : Stp μ H μ1 H1) (h : VL K Q μ H P) : VL K Q μ1 H1 P := fun w μ' v H' p e2 => h w μ' v H' p (e.trans e2)
theorem qe_call (px : Px X E) (D : DefQ X.prog X.w X.K X.mg X.base k x ps f) (hr : Room k X.A) (hg : Gl X x) (ha : QA X E (e :: es) fa) (hdb : (x == ("__debug__" : Str)) = false := by decide)
    (he : starEach (e :: es) X.env = (false, eval e X.env) :: starEach es X.env := by rfl) (hpl : (backTo pos (starEach es X.env)).any (·.1) = false := by rfl) : QE X E (.Call (.Name x p) (e :: es) [] pos) (eCall f fa) := by
  obtain ⟨a, fd, h, g, kp, b⟩ := D.ex
  refine ⟨(pe_callSD h hr hg g kp b .nil px ha.pa hdb he hpl).qimp fun σ H Q h => ?_⟩
  obtain ⟨ρ, μ, P, XX, hh, hm, hf, hv, hx⟩ := h
  exact ⟨ρ, μ, _, XX, hh, hm, hf, fun ws μ1 vs H1 p1 e1 m1 r1 => sp_now r1 m1 p1 (hv.stp e1) (hx.stp e1), hx⟩
/-- a method: of the class that the object is of -/
@[reducible] def eMet (m : Str) (ds : List (Str × FW)) (o : FE) (a : FA) : FE := fun ρ μ P X => o ρ μ (fun w μ1 => match w with
  | .ref r => (match μ1 r with
    | some (.ins c fs) => lk m fs = none ∧ (match lk c ds with
      | some f => a ρ μ1 (fun ws μ2 => f (.ref r :: ws) μ2 P X) X
      | none => False)
    | _ => False)
  | _ => False) X
/-- all of them are there -/
def MetsQ (X : Cx) (k : Nat) (m : Str) (ds : List (Str × FW)) : Prop := ∀ c f, lk c ds = some f → ∃ ps, MetQ X.prog X.w X.K X.mg X.base k c m ps f
theorem MetQ.mono {P : Program} {w : World} {K : Frag} {mg : Str → Option Value} {base : Heap} {j k : Nat} {x m : Str} {ps : List Str} {f : FW} (h : MetQ P w K mg base j x m ps f) (l : j ≤ k) : MetQ P w K mg base k x m ps f := by
  obtain ⟨a, fd, F, r⟩ := h.ex
  exact ⟨h.cls, a, fd, F.mono l, r⟩
theorem mets1 {c : Str} {f : FW} (h : MetQ X.prog X.w X.K X.mg X.base k c m ps f) : MetsQ X k m [(c, f)] := fun c' f' e => by
  unfold lk at e
  split at e
  · rename_i q
    cases e
    exact ⟨ps, q ▸ h⟩
  · cases e
theorem met_at {K : Frag} {H : Hp} {μ : Mu} {r : Addr} {c : Str} {fs : List (Str × W)} (m' : Mem K H μ) (e : μ r = some (.ins c fs)) (n : lk m fs = none) : ∃ dx fv, H r = some (.ins (He.ga K c) dx fv) ∧ fv.lookup m = none := by
  obtain ⟨dx, fv, h, rr⟩ := ins_at m' e
  exact ⟨dx, fv, h, (rwp_lk rr).1 n⟩
theorem QE.go {pins : List (Addr × Obj)} {s : Shared} {σ : St} {H : Hp} {ρ : Rho} {μ : Mu} {P : Po} {XX : Xo} (h : QE X E o fo) (I : Inv X pins σ H s) (hh : Holds X.K H μ σ ρ) (hm : Mem X.K H μ) (hf : fo ρ μ P XX) (hx : XL X.K (E σ) μ H XX) :
    wpAny (model X.prog X.w) X.A (eval o X.env) (fun u s1 => ∃ v H1 w μ1, Inv X pins σ H1 s1 ∧ RelV v u ∧ P w μ1 ∧ Stp μ H μ1 H1 ∧ Mem X.K H1 μ1 ∧ Rw X.K H1 μ1 v w) X.xe s :=
  thn (h.pe.run pins s σ H (fun v H1 => ∃ w μ1, P w μ1 ∧ Stp μ H μ1 H1 ∧ Mem X.K H1 μ1 ∧ Rw X.K H1 μ1 v w) I ⟨ρ, μ, P, XX, hh, hm, hf, fun w μ1 v H1 p1 e1 m1 r1 => ⟨w, μ1, p1, e1, m1, r1⟩, hx⟩) fun u s1 ⟨v, H1, I1, rx, w, μ1, p1, e1, m1, r1⟩ => ⟨v, H1, w, μ1, I1, rx, p1, e1, m1, r1⟩
theorem QA.go {pins : List (Addr × Obj)} {s : Shared} {σ : St} {H : Hp} {ρ : Rho} {μ : Mu} {P : List W → Mu → Prop} {XX : Xo} (h : QA X E es fa) (pos : Pos) (I : Inv X pins σ H s) (hh : Holds X.K H μ σ ρ) (hm : Mem X.K H μ) (hf : fa ρ μ P XX) (hx : XL X.K (E σ) μ H XX) :
    wpAny (model X.prog X.w) X.A (spliced (backTo pos (starEach es X.env))) (fun us s1 => ∃ vs H1 ws μ1, Inv X pins σ H1 s1 ∧ Vals vs us ∧ P ws μ1 ∧ Stp μ H μ1 H1 ∧ Mem X.K H1 μ1 ∧ RwAll X.K H1 μ1 vs ws) X.xe s :=
  thn (h.pa.run pos pins s σ H (fun vs H1 => ∃ ws μ1, P ws μ1 ∧ Stp μ H μ1 H1 ∧ Mem X.K H1 μ1 ∧ RwAll X.K H1 μ1 vs ws) I ⟨ρ, μ, P, XX, hh, hm, hf, fun w μ1 v H1 p1 e1 m1 r1 => ⟨w, μ1, p1, e1, m1, r1⟩, hx⟩) fun u s1 ⟨v, H1, I1, rx, w, μ1, p1, e1, m1, r1⟩ => ⟨v, H1, w, μ1, I1, rx, p1, e1, m1, r1⟩
theorem qe_met {pl : Sem Bool} {ds : List (Str × FW)} (px : Px X E) (D : MetsQ X k m ds) (hr : Room k X.A) (ho : QE X E o fo) (ha : QA X E (e :: es) fa)
    (hst : starEach (e :: es) X.env = (false, eval e X.env) :: starEach es X.env := by rfl) (hpl : (backTo pos (starEach es X.env)).any (·.1) = false := by rfl)
    (ht : eval (.Call (.Attribute o m apos) (e :: es) [] pos) X.env = (do
      let ov ← eval o X.env
      standAt apos.atName
      let (f, first) ← holding [ov] (getMethod ov m pl)
      callWith pos f first (backTo pos (starEach (e :: es) X.env)) (backToKw pos (keywordEach [] X.env))) := by rfl) : QE X E (.Call (.Attribute o m apos) (e :: es) [] pos) (eMet m ds fo fa) := by
  refine ⟨⟨fun pins s σ H Q I hq => ?_⟩⟩
  obtain ⟨ρ, μ, P, XX, hh, hm, hf, hv, hx⟩ := hq
  refine PySem.W.methodCall_KW (pl := pl) (thn (ho.go I hh hm hf hx) fun u s1 ⟨v, H1, w, μ1, I1, rx, p1, e1, m1, r1⟩ => ?_) ht
  split at p1
  · split at p1
    · rename_i r _ c fs e
      obtain ⟨n, p1⟩ := p1
      split at p1
      · rename_i f ef
        cases r1
        obtain rfl : u = Value.ref r := rx
        obtain ⟨ps, M⟩ := D c f ef
        obtain ⟨a, fd, F, hmt, hb⟩ := M.ex
        obtain ⟨dx, fv, h1, l1⟩ := met_at m1 e n
        refine getmeth_ok I1 h1 M.cls hmt l1 ?_
        refine PySem.W.callWith_K (first := [.ref r]) (h₀ := X.base) I1.ok.mod.kin hmt.kp (thn (ha.go pos I1 (hh.stp e1) m1 p1 (hx.stp e1)) fun us s2 ⟨vs, H2, ws, μ2, I2, r, p2, e2, m2, r2⟩ => ⟨I2.kIn, ?_⟩) hst hpl
        exact run_fnSD (us := .ref _ :: us) (vs := .ref _ :: vs) (E := E) F hr hb .nil (px σ) I2 (.cons rfl r) (sp_now (.cons (.ref _) r2) m2 p2 (hv.stp (e1.trans e2)) (hx.stp (e1.trans e2)))
      · exact p1.elim
    · exact p1.elim
  · exact p1.elim
theorem qe_met0 {pl : Sem Bool} {ds : List (Str × FW)} (px : Px X E) (D : MetsQ X k m ds) (hr : Room k X.A) (ho : QE X E o fo)
    (ht : eval (.Call (.Attribute o m apos) [] [] pos) X.env = (do
      let ov ← eval o X.env
      standAt apos.atName
      let (f, first) ← holding [ov] (getMethod ov m pl)
      callWith pos f first (backTo pos (starEach [] X.env)) (backToKw pos (keywordEach [] X.env))) := by rfl) : QE X E (.Call (.Attribute o m apos) [] [] pos) (eMet m ds fo aNil) := by
  refine ⟨⟨fun pins s σ H Q I hq => ?_⟩⟩
  obtain ⟨ρ, μ, P, XX, hh, hm, hf, hv, hx⟩ := hq
  refine PySem.W.methodCall_KW (pl := pl) (thn (ho.go I hh hm hf hx) fun u s1 ⟨v, H1, w, μ1, I1, rx, p1, e1, m1, r1⟩ => ?_) ht
  split at p1
  · split at p1
    · rename_i r _ c fs e
      obtain ⟨n, p1⟩ := p1
      split at p1
      · rename_i f ef
        cases r1
        obtain rfl : u = Value.ref r := rx
        obtain ⟨ps, M⟩ := D c f ef
        obtain ⟨a, fd, F, hmt, hb⟩ := M.ex
        obtain ⟨dx, fv, h1, l1⟩ := met_at m1 e n
        refine getmeth_ok I1 h1 M.cls hmt l1 ?_
        refine PySem.W.callWith_K0 I1.kIn hmt.kp ?_
        exact run_fnSD (us := [.ref _]) (vs := [.ref _]) (E := E) F hr hb .nil (px σ) I1 (.cons rfl .nil) (sp_now (.cons (.ref _) .nil) m1 p1 (hv.stp e1) (hx.stp e1))
      · exact p1.elim
    · exact p1.elim
  · exact p1.elim
/-- C(..) -/
@[reducible] def eMak (c : Str) (f : FW) (a : FA) : FE := fun ρ μ P X => a ρ μ (fun ws μ1 => ∀ p, μ1 p = none → f (.ref p :: ws) (mset μ1 p (.ins c [])) (fun w μ2 => w = .non ∧ P (.ref p) μ2) X) X
theorem run_mk {pins : List (Addr × Obj)} {σ : St} {H : Hp} {s : Shared} {Q : VK} {us : List Value} {vs : List V} {ws : List W} {μ : Mu} {P : Po} {XX : Xo} (px : Px X E) (D : MakQ X.prog X.w X.K X.mg X.base k x ps f) (hr : Room (k + 1) X.A) (I : Inv X pins σ H s) (r : Vals vs us) (rw' : RwAll X.K H μ vs ws) (hm : Mem X.K H μ)
    (hf : ∀ p, μ p = none → f (.ref p :: ws) (mset μ p (.ins x [])) (fun w μ2 => w = .non ∧ P (.ref p) μ2) XX) (hv : VL X.K Q μ H P) (hx : XL X.K (E σ) μ H XX) : wpAny (model X.prog X.w) X.A (call (.ref (He.ga X.K x)) us) (EP X pins σ Q) X.xe s := by
  obtain ⟨a, fd, F, M, hb⟩ := D.ex
  have n1 : H (s.heap.objs.size + 1) = none := I.hok.fresh (Nat.le_succ _)
  have n0 : H s.heap.objs.size = none := I.hok.fresh (Nat.le_refl _)
  have J := Inv.made (C := He.ga X.K x) I
  have n2 : upd H s.heap.objs.size (.own (s.heap.objs.size + 1)) (s.heap.objs.size + 1) = none := by
    rw [upd_ne (Nat.ne_of_gt (Nat.lt_succ_self _))]
    exact n1
  have st : Stp μ H (mset μ (s.heap.objs.size + 1) (.ins x [])) (upd (upd H s.heap.objs.size (.own (s.heap.objs.size + 1))) (s.heap.objs.size + 1) (.ins (He.ga X.K x) s.heap.objs.size [])) := (Stp.new n0).trans (Stp.newT n2)
  have m2 : Mem X.K (upd (upd H s.heap.objs.size (.own (s.heap.objs.size + 1))) (s.heap.objs.size + 1) (.ins (He.ga X.K x) s.heap.objs.size [])) (mset μ (s.heap.objs.size + 1) (.ins x [])) := (hm.new n0).put (Stp.newT n2) ⟨_, [], upd_same, .nil⟩
  have q := sp_now (f := f) (Q := fun v H2 => v = V.non ∧ Q (.ref (s.heap.objs.size + 1)) H2) (Ek := E σ) (RwAll.cons (.ref (s.heap.objs.size + 1)) (rw'.stp st)) m2 (hf _ (hm.free n1)) (fun w' μ' v H' p e m' r' => by
    obtain ⟨rfl, p⟩ := p
    cases r'
    exact ⟨rfl, hv _ μ' _ H' p (st.trans e) m' (.ref _)⟩) (hx.stp st)
  have rr : Vals (V.ref (s.heap.objs.size + 1) :: vs ++ []) (Value.ref (s.heap.objs.size + 1) :: us ++ []) := (show Vals (V.ref (s.heap.objs.size + 1) :: vs) (Value.ref (s.heap.objs.size + 1) :: us) from .cons rfl r).append .nil
  have hl : (Value.ref (s.heap.objs.size + 1) :: us ++ []).length = ps.length := by
    rw [← rr.length]
    exact F.len _ _ _ _ q
  refine wpAny_call (make_map (f := a) I.kIn M.makes M.init (beq_iff_eq.mp M.fn) (codeAny_mono (F.run _ X.stack _ _ ⟨Value.ref (s.heap.objs.size + 1) :: us, []⟩ _ _ _ (E σ) (hr.make _ us []) (J.env0.make _ us []) (hb _ (Value.ref (s.heap.objs.size + 1) :: us) J.kIn hl) rr q) fun r s' hq' => ?_))
  cases r with
  | error er => exact px σ pins _ _ er s' J hq'
  | ok fl =>
    cases fl with
    | ret u =>
      obtain ⟨v, H', I3, rv, ev, q3⟩ := J.after hq'
      subst ev
      exact ⟨rv, ⟨V.ref _, H', I3, rfl, q3⟩⟩
    | _ => exact False.elim hq'
theorem qe_mak (px : Px X E) (D : MakQ X.prog X.w X.K X.mg X.base k x ps f) (hr : Room (k + 1) X.A) (hg : Gl X x) (ha : QA X E (e :: es) fa) (hdb : (x == ("__debug__" : Str)) = false := by decide)
    (he : starEach (e :: es) X.env = (false, eval e X.env) :: starEach es X.env := by rfl) (hpl : (backTo pos (starEach es X.env)).any (·.1) = false := by rfl) : QE X E (.Call (.Name x p) (e :: es) [] pos) (eMak x f fa) := by
  refine ⟨⟨fun pins s σ H Q I hq => ?_⟩⟩
  obtain ⟨ρ, μ, P, XX, hh, hm, hf, hv, hx⟩ := hq
  obtain ⟨a, fd, F, M, hb⟩ := D.ex
  refine wpAny_Call_Name_kw (ld_glob I hg D.g ?_ hdb)
  refine PySem.W.callWith_K (h₀ := X.base) I.ok.mod.kin M.kp (thn (ha.go pos I hh hm hf hx) fun us s1 ⟨vs, H1, ws, μ1, I1, r, p1, e1, m1, r1⟩ => ⟨I1.kIn, ?_⟩) he hpl
  exact run_mk px D hr I1 r r1 m1 p1 (hv.stp e1) (hx.stp e1)
theorem qe_mak0 (px : Px X E) (D : MakQ X.prog X.w X.K X.mg X.base k x ps f) (hr : Room (k + 1) X.A) (hg : Gl X x) (hdb : (x == ("__debug__" : Str)) = false := by decide) : QE X E (.Call (.Name x p) [] [] pos) (eMak x f aNil) := by
  refine ⟨⟨fun pins s σ H Q I hq => ?_⟩⟩
  obtain ⟨ρ, μ, P, XX, hh, hm, hf, hv, hx⟩ := hq
  obtain ⟨a, fd, F, M, hb⟩ := D.ex
  refine wpAny_Call_Name_kw (ld_glob I hg D.g ?_ hdb)
  exact PySem.W.callWith_K0 I.kIn M.kp (run_mk (us := []) px D hr I .nil .nil hm hf hv hx)
end
end Q
namespace Q
open PySem L2 Evl RZ
/-! walks: loops, comprehensions -/
structure ItW (K : Frag) (J : It) (Rel : Hp → Mu → Prop) (std : Mu → Prop) (ws : List W) : Prop where
  mono : ∀ H μ H' μ', Rel H μ → Stp μ H μ' H' → Rel H' μ'
  go : ∀ i H μ, Rel H μ → Mem K H μ → std μ → i < ws.length → J.go i H
  yld : ∀ i H μ x H' y, Rel H μ → Mem K H μ → std μ → ws[i]? = some y → J.yld i H x H' → Stp μ H μ H' ∧ Mem K H' μ ∧ Rw K H' μ x y
  stop : ∀ i H μ, Rel H μ → Mem K H μ → std μ → ws.length ≤ i → J.stop i H
abbrev FI := Rho → Mu → ((Mu → Prop) → List W → Mu → Prop) → Xo → Prop
def tI (K : Frag) (E : L2.St → XK) (f : FI) : TI := fun σ H R => ∃ ρ μ P X, Holds K H μ σ ρ ∧ Mem K H μ ∧ f ρ μ P X ∧
  (∀ std ws μ1 H1 J Rel, P std ws μ1 → Stp μ H μ1 H1 → Mem K H1 μ1 → Rel H1 μ1 → ItW K J Rel std ws → R J H1) ∧ XL K (E σ) μ H X
structure QI (X : Cx) (E : L2.St → XK) (tg iter : Expr) (f : FI) : Prop where
  pi : PI X tg iter (tI X.K E f)
theorem PI.qimp {X : Cx} {tg e : Expr} {t t' : TI} (h : PI X tg e t) (k : ∀ σ H R, t' σ H R → t σ H R) : PI X tg e t' := ⟨fun pins s σ H Q I q => h.run pins s σ H Q I (k σ H Q q)⟩
/-! what is walked -/
theorem itw_list {K : Frag} {a : Addr} {w : W} {ws : List W} : ItW K (Itl K a) (fun H μ => Rw K H μ (.ref a) w) (fun μ => rdL μ w = some ws) ws where
  mono := fun _ _ _ _ r e => r.stp e
  go := fun i H μ r m h hi => by
    obtain ⟨b, vs, e, q, hs⟩ := rdL_at h r m
    cases e
    obtain ⟨v, e1, _⟩ := RwAll.at i hs (List.getElem?_eq_getElem hi)
    exact ⟨vs, v, q, e1⟩
  yld := fun i H μ x H' y r m h hy q => by
    obtain ⟨e, q⟩ := q
    subst e
    obtain ⟨b, vs, e, q2, hs⟩ := rdL_at h r m
    cases e
    obtain ⟨v, e1, r1⟩ := RwAll.at i hs hy
    have e2 := q vs q2
    rw [e1] at e2
    cases e2
    exact ⟨Stp.refl _ _, m, r1⟩
  stop := fun i H μ r m h hi => by
    obtain ⟨b, vs, e, q, hs⟩ := rdL_at h r m
    cases e
    exact ⟨vs, q, by rw [hs.len]; exact hi⟩
theorem itw_tup {K : Frag} {a : Addr} {ws : List W} {std : Mu → Prop} : ItW K (Itt K a) (fun H μ => Rw K H μ (.ref a) (.tup ws)) std ws where
  mono := fun _ _ _ _ r e => r.stp e
  go := fun i H μ r m h hi => by
    cases r with
    | tup q hs =>
      obtain ⟨v, e1, _⟩ := RwAll.at i hs (List.getElem?_eq_getElem hi)
      exact ⟨_, v, tup_sq q, e1⟩
  yld := fun i H μ x H' y r m h hy q => by
    obtain ⟨e, q⟩ := q
    subst e
    cases r with
    | tup q2 hs =>
      obtain ⟨v, e1, r1⟩ := RwAll.at i hs hy
      have e2 := q _ (tup_sq q2)
      rw [e1] at e2
      cases e2
      exact ⟨Stp.refl _ _, m, r1⟩
  stop := fun i H μ r m h hi => by
    cases r with
    | tup q hs => exact ⟨_, tup_sq q, by rw [hs.len]; exact hi⟩
/-- the signs of a text -/
def signs (z : Str) : List W := z.cps.toList.map fun c => .str ⟨#[c]⟩
theorem itw_str {K : Frag} {z : Str} {std : Mu → Prop} : ItW K (Its z) (fun _ _ => True) std (signs z) where
  mono := fun _ _ _ _ _ _ => trivial
  go := fun i H μ _ _ _ hi => by
    have h2 : i < z.cps.toList.length := by simpa [signs] using hi
    simpa [Its] using h2
  yld := fun i H μ x H' y _ m _ hy q => by
    obtain ⟨e, c, hc, rfl⟩ := q
    subst e
    unfold signs at hy
    rw [List.getElem?_map, Array.getElem?_toList, hc] at hy
    cases hy
    exact ⟨Stp.refl _ _, m, .str _⟩
  stop := fun i H μ _ _ _ hi => by
    have h2 : z.cps.toList.length ≤ i := by simpa [signs] using hi
    simpa [Its] using h2
def nums (lo : Int) (n : Nat) : List W := (List.range n).map fun (i : Nat) => .int (lo + (i : Int))
theorem itw_range {K : Frag} {lo : Int} {n : Nat} {std : Mu → Prop} : ItW K (Itr lo n) (fun _ _ => True) std (nums lo n) where
  mono := fun _ _ _ _ _ _ => trivial
  go := fun i H μ _ _ _ hi => by simpa [nums, Itr] using hi
  yld := fun i H μ x H' y _ m _ hy q => by
    obtain ⟨e, rfl⟩ := q
    subst e
    unfold nums at hy
    rw [List.getElem?_map] at hy
    obtain ⟨j, h1, h2⟩ := Option.map_eq_some_iff.mp hy
    obtain ⟨h3, h4⟩ := List.getElem?_eq_some_iff.mp h1
    rw [List.getElem_range] at h4
    subst h4
    subst h2
    exact ⟨Stp.refl _ _, m, .int _⟩
  stop := fun i H μ _ _ _ hi => by simpa [nums, Itr] using hi
def kW : Key → W
  | .inl i => .int i
  | .inr x => .str x
theorem rw_kW {K : Frag} {H : Hp} {μ : Mu} (k : Key) : Rw K H μ (kV k) (kW k) := by
  cases k
  · exact .int _
  · exact .str _
theorem itw_keys {K : Frag} {d : Addr} {o : Obj} {kv : List (Key × V)} {kvs : List (Key × W)} (hk : kv.map (·.1) = kvs.map (·.1)) {std : Mu → Prop} : ItW K (Itk d o kv) (fun H _ => H d = some (.frz o (.dK kv))) std (kvs.map fun p => kW p.1) where
  mono := fun _ _ _ _ r e => e.fz _ _ _ r
  go := fun i H μ r _ _ hi => ⟨r, by
    have := congrArg List.length hk
    simp only [List.length_map] at this hi
    omega⟩
  yld := fun i H μ x H' y r m _ hy q => by
    obtain ⟨e, k, v, h1, rfl⟩ := q
    subst e
    rw [show kvs.map (fun p => kW p.1) = (kvs.map (·.1)).map kW by rw [List.map_map]; rfl, ← hk, List.getElem?_map, List.getElem?_map, h1] at hy
    cases hy
    exact ⟨Stp.refl _ _, m, rw_kW k⟩
  stop := fun i H μ r _ _ hi => ⟨r, by
    have := congrArg List.length hk
    simp only [List.length_map] at this hi
    omega⟩
section
variable {X : Cx} {E : L2.St → XK} {tg : Expr}
@[reducible] def iSq (e : FE) : FI := fun ρ μ P X => e ρ μ (fun w μ1 => match w with
  | .str z => P (fun _ => True) (signs z) μ1
  | .tup ws => P (fun _ => True) ws μ1
  | w => (match rdL μ1 w with
    | some ws => P (fun μ => rdL μ w = some ws) ws μ1
    | none => False)) X
theorem qi_seq {l : Expr} {f : FE} (hl : QE X E l f) : QI X E tg l (iSq f) := ⟨⟨fun pins s σ H R I h => by
  obtain ⟨ρ, μ, P, XX, hh, hm, hf, hk, hx⟩ := h
  refine thn (hl.go I hh hm hf hx) fun u s1 ⟨v, H1, w, μ1, I1, rx, p1, e1, m1, r1⟩ => ?_
  split at p1
  · rename_i z
    have ev := rw_str r1
    subst ev
    obtain ⟨t, rfl⟩ := rx
    have q := hk _ _ μ1 H1 (Its z) (fun _ _ => True) p1 e1 m1 trivial itw_str
    cases ha : z.cps.all (· < 128)
    · exact wpAny_pyIter_wide ha (pi_one (tk := s1.toks) I1 _ (turn_str _ z t "str_iterator" (.inr rfl)) ⟨_, Heap.get?_push_size _ rfl, rfl, rfl⟩ q)
    · exact wpAny_pyIter_ascii ha (pi_one (tk := s1.toks) I1 _ (turn_str _ z t "str_ascii_iterator" (.inl rfl)) ⟨_, Heap.get?_push_size _ rfl, rfl, rfl⟩ q)
  · have r2 := r1
    cases r1 with
    | @tup a vs _ q hs =>
      cases rx
      obtain ⟨its, rv, pt, hz⟩ := I1.tuple (tup_sq q)
      have q2 := hk _ _ μ1 H1 (Itt X.K a) _ p1 e1 m1 r2 itw_tup
      exact wpAny_pyIter_tuple (show s1.heap.IsTuple a its.toArray from pt) (pi_one (tk := s1.toks) I1 _ (turn_tuple a _) ⟨_, Heap.get?_push_size _ rfl, rfl, rfl⟩ q2)
  · split at p1
    · rename_i ws ew
      obtain ⟨a, vs, rfl, q, hs⟩ := rdL_at ew r1 m1
      cases rx
      obtain ⟨its, rv, pt, hz⟩ := I1.list q
      have q2 := hk _ _ μ1 H1 (Itl X.K a) _ p1 e1 m1 r1 itw_list
      exact wpAny_pyIter_list pt.isList (pi_one (tk := s1.toks) I1 _ (turn_list a _) ⟨_, Heap.get?_push_size _ rfl, rfl, rfl⟩ q2)
    · exact p1.elim⟩⟩
@[reducible] def iR1 (a : FA) : FI := fun ρ μ P X => a ρ μ (fun ws μ1 => match ws with
  | [.int n] => (-(2 ^ 62) ≤ n ∧ n < 2 ^ 62) ∧ P (fun _ => True) (nums 0 n.toNat) μ1
  | _ => False) X
@[reducible] def iR2 (a : FA) : FI := fun ρ μ P X => a ρ μ (fun ws μ1 => match ws with
  | [.int i, .int j] => (-(2 ^ 62) ≤ i ∧ i < 2 ^ 62 ∧ -(2 ^ 62) ≤ j ∧ j < 2 ^ 62) ∧ P (fun _ => True) (nums i (j - i).toNat) μ1
  | _ => False) X
theorem qi_range1 {a : Expr} {f : FA} {p pos : Pos} (hg : Gl X "range") (hm : X.mg "range" = none) (ha : QA X E [a] f) (hs : starEach [a] X.env = [(false, eval a X.env)] := by rfl) : QI X E tg (.Call (.Name "range" p) [a] [] pos) (iR1 f) := ⟨PI.qimp (pi_range1 hg hm ha.pa hs) fun σ H R h => by
  obtain ⟨ρ, μ, P, XX, hh, hm, hf, hk, hx⟩ := h
  refine ⟨ρ, μ, _, XX, hh, hm, hf, fun ws μ1 vs H1 p1 e1 m1 r1 => ?_, hx⟩
  split at p1
  · obtain ⟨v, rfl, r⟩ := r1.one
    have ev := rw_int r
    subst ev
    exact ⟨_, rfl, p1.1.1, p1.1.2, hk _ _ μ1 H1 _ (fun _ _ => True) p1.2 e1 m1 trivial itw_range⟩
  · exact p1.elim⟩
theorem qi_range2 {a b : Expr} {f : FA} {p pos : Pos} (hg : Gl X "range") (hm : X.mg "range" = none) (ha : QA X E [a, b] f) (hs : starEach [a, b] X.env = [(false, eval a X.env), (false, eval b X.env)] := by rfl) (hs2 : starEach [b] X.env = [(false, eval b X.env)] := by rfl) : QI X E tg (.Call (.Name "range" p) [a, b] [] pos) (iR2 f) := ⟨PI.qimp (pi_range2 hg hm ha.pa hs hs2) fun σ H R h => by
  obtain ⟨ρ, μ, P, XX, hh, hm, hf, hk, hx⟩ := h
  refine ⟨ρ, μ, _, XX, hh, hm, hf, fun ws μ1 vs H1 p1 e1 m1 r1 => ?_, hx⟩
  split at p1
  · obtain ⟨v, w, rfl, r, r'⟩ := r1.two
    have ev := rw_int r
    subst ev
    have ew := rw_int r'
    subst ew
    exact ⟨_, _, rfl, p1.1, hk _ _ μ1 H1 _ (fun _ _ => True) p1.2 e1 m1 trivial itw_range⟩
  · exact p1.elim⟩
/-- the keys, the values of a locked dict -/
@[reducible] def iKy (e : FE) : FI := fun ρ μ P X => e ρ μ (fun w μ1 => match w with
  | .ref a => (match μ1 a with
    | some (.rk kvs) => P (fun _ => True) (kvs.map fun p => kW p.1) μ1
    | _ => False)
  | _ => False) X
theorem qi_keys {e : Expr} {f : FE} (he : QE X E e f) : QI X E tg e (iKy f) := ⟨PI.qimp (pi_keys he.pe) fun σ H R h => by
  obtain ⟨ρ, μ, P, XX, hh, hm, hf, hk, hx⟩ := h
  refine ⟨ρ, μ, _, XX, hh, hm, hf, fun w μ1 v H1 p1 e1 m1 r1 => ?_, hx⟩
  dsimp only at p1
  split at p1
  · split at p1
    · rename_i a _ kvs ea
      cases r1
      obtain ⟨o, kv, h1, h2⟩ := m1 _ _ ea
      exact ⟨a, o, rfl, .inl ⟨kv, h1, hk _ _ μ1 H1 _ (fun H _ => H a = some (.frz o (.dK kv))) p1 e1 m1 h1 (itw_keys h2.keys)⟩⟩
    · exact p1.elim
  · exact p1.elim⟩
end
/-! ### for -/
def itS (std : Mu → Prop) (g : FG) (b : FS) : List W → Rho → Mu → En → Prop
  | [], ρ, μ, N => std μ ∧ N.nx ρ μ
  | w :: ws, ρ, μ, N => std μ ∧ g w ρ μ fun ρ1 μ1 => b ρ1 μ1 { nx := fun ρ' μ' => itS std g b ws ρ' μ' N, ct := fun ρ' μ' => itS std g b ws ρ' μ' N, bk := N.nx, rt := N.rt, ex := N.ex }
@[reducible] def sFor (i : FI) (g : FG) (b : FS) : FS := fun ρ μ N => i ρ μ (fun std ws μ1 => itS std g b ws ρ μ1 N) (N.ex ρ)
theorem qs_for {X : Cx} {E : L2.St → XK} {tg iter : Expr} {body : List Stmt} {fi : FI} {g : FG} {b : FS} {pos : Pos} (po : PassesOwn (model X.prog X.w) X.A X.env X.xe) (hc : X.calm = true) (hi : QI X E tg iter fi) (hg : QG X tg g) (hb : QSs X E body b)
    (hs : ∀ x, foldedSetIterable iter X.env x = pure x := by intro _; rfl) : QS X E (.For tg iter body [] pos) (sFor fi g b) := ⟨(ps_for po hc hi.pi hg.pg hb.pss hs).qimp fun D σ H h => by
  obtain ⟨ρ, μ, N, hh, hm, hf, l⟩ := h
  refine ⟨ρ, μ, _, _, hh, hm, hf, fun std ws μ1 H1 J Rel p1 e1 m1 rel itw => ?_, l.xl hh⟩
  refine ⟨fun i m σ' H' => m = ws.length - i ∧ i ≤ ws.length ∧ ∃ ρ' μ', itS std g b (ws.drop i) ρ' μ' N ∧ Stp μ1 H1 μ' H' ∧ Mem X.K H' μ' ∧ Holds X.K H' μ' σ' ρ', ⟨ws.length, by simp, Nat.zero_le _, ρ, μ1, by simpa using p1, Stp.refl _ _, m1, hh.stp e1⟩, ?_⟩
  rintro i m σ' H' ⟨rfl, hi2, ρ', μ', q, e2, m2, h2⟩
  have rel2 := itw.mono _ _ _ _ rel e2
  by_cases hlt : i < ws.length
  · have ed : ws.drop i = ws[i] :: ws.drop (i + 1) := List.drop_eq_getElem_cons hlt
    rw [ed] at q
    obtain ⟨hstd, q⟩ := q
    refine .inr ⟨itw.go i H' μ' rel2 m2 hstd hlt, fun σ3 H3 => ∃ ρ3 μ3, itS std g b (ws.drop (i + 1)) ρ3 μ3 N ∧ Stp μ1 H1 μ3 H3 ∧ Mem X.K H3 μ3 ∧ Holds X.K H3 μ3 σ3 ρ3, fun σ3 H3 ⟨ρ3, μ3, q3, e3, m3, h3⟩ => ⟨ws.length - (i + 1), by omega, rfl, hlt, ρ3, μ3, q3, e3, m3, h3⟩, fun x H3 y => ?_⟩
    obtain ⟨e3, m3, r3⟩ := itw.yld i H' μ' x H3 _ rel2 m2 hstd (List.getElem?_eq_getElem hlt) y
    have e13 := e2.trans e3
    refine ⟨_, ρ', μ', _, r3, h2.stp e3, m3, q, fun ρ4 μ4 σ4 H4 p4 e4 m4 h4 => ⟨ρ4, μ4, _, h4, m4, p4, ?_⟩⟩
    have e04 := (e1.trans e13).trans e4
    exact ⟨fun ρ5 μ5 σ5 H5 n e m h => ⟨ρ5, μ5, n, (e13.trans e4).trans e, m, h⟩, fun w μ5 v H5 n e m r => l.rt w μ5 v H5 n (e04.trans e) m r, fun ρ5 μ5 σ5 H5 n e m h => l.nx ρ5 μ5 σ5 H5 n (e04.trans e) m h, fun ρ5 μ5 σ5 H5 n e m h => ⟨ρ5, μ5, n, (e13.trans e4).trans e, m, h⟩, fun ρ5 c fs μ5 d σ5 H5 n e m h p => l.ex ρ5 c fs μ5 d σ5 H5 n (e04.trans e) m h p⟩
  · have ei : i = ws.length := by omega
    subst ei
    rw [List.drop_length] at q
    exact .inl ⟨itw.stop _ H' μ' rel2 m2 q.1 (Nat.le_refl _), l.nx ρ' μ' σ' H' q.2 (e1.trans e2) m2 h2⟩⟩
/-- by an invariant over the turns -/
theorem itS_inv {std : Mu → Prop} {g : FG} {b : FS} {N : En} (ws : List W) (I : Nat → Rho → Mu → Prop) {ρ : Rho} {μ : Mu} (h0 : I 0 ρ μ)
    (hs : ∀ i w ρ μ, ws[i]? = some w → I i ρ μ → std μ ∧ ∀ K : Rho → Mu → Prop, (∀ ρ' μ', I (i + 1) ρ' μ' → K ρ' μ') → g w ρ μ fun ρ1 μ1 => b ρ1 μ1 { nx := K, ct := K, bk := N.nx, rt := N.rt, ex := N.ex })
    (hd : ∀ ρ μ, I ws.length ρ μ → std μ ∧ N.nx ρ μ) : itS std g b ws ρ μ N := by
  have key : ∀ (n i : Nat) (ρ : Rho) (μ : Mu), n = ws.length - i → i ≤ ws.length → I i ρ μ → itS std g b (ws.drop i) ρ μ N := by
    intro n
    induction n with
    | zero =>
      intro i ρ μ hn hi h
      have e : i = ws.length := by omega
      subst e
      rw [List.drop_length]
      exact hd ρ μ h
    | succ n ih =>
      intro i ρ μ hn hi h
      have hlt : i < ws.length := by omega
      rw [List.drop_eq_getElem_cons hlt]
      obtain ⟨h1, h2⟩ := hs i ws[i] ρ μ (List.getElem?_eq_getElem hlt) h
      exact ⟨h1, h2 _ fun ρ' μ' q => ih (i + 1) ρ' μ' (by omega) hlt q⟩
  simpa using key ws.length 0 ρ μ (by simp) (Nat.zero_le _) h0
/-! ### while -/
inductive itWh (c : FT) (b : FS) : Rho → Mu → En → Prop
  | mk {ρ : Rho} {μ : Mu} {N : En} (I : Nat → Rho → Mu → Prop) (n : Nat) (h : I n ρ μ)
      (step : ∀ n ρ μ, I n ρ μ → c ρ μ (fun d μ1 => if d = true then b ρ μ1 { nx := fun ρ' μ' => ∃ m, m < n ∧ I m ρ' μ', ct := fun ρ' μ' => ∃ m, m < n ∧ I m ρ' μ', bk := N.nx, rt := N.rt, ex := N.ex } else N.nx ρ μ1) (N.ex ρ)) : itWh c b ρ μ N
theorem qs_while {X : Cx} {E : L2.St → XK} {test : Expr} {body : List Stmt} {c : FT} {b : FS} {pos : Pos} (po : PassesOwn (model X.prog X.w) X.A X.env X.xe) (hc : QT X E test c) (hb : QSs X E body b) : QS X E (.While test body [] pos) (itWh c b) := ⟨(ps_while po hc.pt hb.pss).qimp fun D σ H h => by
  obtain ⟨ρ, μ, N, hh, hm, hf, l⟩ := h
  cases hf with
  | mk I n h0 step =>
  refine ⟨fun m σ' H' => ∃ ρ' μ', I m ρ' μ' ∧ Stp μ H μ' H' ∧ Mem X.K H' μ' ∧ Holds X.K H' μ' σ' ρ', ⟨n, ρ, μ, h0, Stp.refl _ _, hm, hh⟩, ?_⟩
  rintro m σ' H' ⟨ρ', μ', q, e2, m2, h2⟩
  refine ⟨ρ', μ', _, _, h2, m2, step m ρ' μ' q, fun d μ3 H3 p3 e3 m3 => ?_, (l.stp e2).xl h2⟩
  have e13 := e2.trans e3
  cases d with
  | true =>
    refine iteT ⟨fun σ4 H4 => ∃ m', m' < m ∧ ∃ ρ' μ', I m' ρ' μ' ∧ Stp μ H μ' H4 ∧ Mem X.K H4 μ' ∧ Holds X.K H4 μ' σ4 ρ', fun _ _ h => h, ρ', μ3, _, h2.stp e3, m3, (if_pos rfl).mp p3, ?_⟩
    exact ⟨fun ρ5 μ5 σ5 H5 ⟨m', hm', n⟩ e m h => ⟨m', hm', ρ5, μ5, n, e13.trans e, m, h⟩, fun w μ5 v H5 n e m r => l.rt w μ5 v H5 n (e13.trans e) m r, fun ρ5 μ5 σ5 H5 n e m h => l.nx ρ5 μ5 σ5 H5 n (e13.trans e) m h, fun ρ5 μ5 σ5 H5 ⟨m', hm', n⟩ e m h => ⟨m', hm', ρ5, μ5, n, e13.trans e, m, h⟩, fun ρ5 c fs μ5 d σ5 H5 n e m h p => l.ex ρ5 c fs μ5 d σ5 H5 n (e13.trans e) m h p⟩
  | false => exact iteF (l.nx ρ' μ3 σ' H3 ((if_neg (by decide)).mp p3) e13 m3 (h2.stp e3))⟩
/-! ### a dict is locked -/
@[reducible] def eLock (f : FE) : FE := fun ρ μ P X => ∃ a kvs, μ a = some (.dk kvs) ∧ f ρ (mset μ a (.rk kvs)) (fun w μ' => μ' a = some (.rk kvs) ∧ P w (mset μ' a (.dk kvs))) X
section
variable {K : Frag} {μ : Mu} {H : Hp} {a : Addr} {kvs : List (Key × W)} {kv : List (Key × V)} {od : Obj}
theorem lock_in (e : μ a = some (.dk kvs)) (h : H a = some (.dK kv)) : Stp μ H (mset μ a (.rk kvs)) (upd H a (.frz od (.dK kv))) := Stp.put e (nf_dk h)
theorem lock_mem (m : Mem K H μ) (e : μ a = some (.dk kvs)) (h : H a = some (.dK kv)) (r : RwP K H μ kv kvs) : Mem K (upd H a (.frz od (.dK kv))) (mset μ a (.rk kvs)) := m.put (lock_in e h) ⟨od, kv, upd_same, r.stp (lock_in e h)⟩
/-- behind the lock: from before it -/
theorem lock_out {μ' : Mu} {H' : Hp} (e : μ a = some (.dk kvs)) (h : H a = some (.dK kv)) (s : Stp (mset μ a (.rk kvs)) (upd H a (.frz od (.dK kv))) μ' H') : Stp μ H (mset μ' a (.dk kvs)) (upd H' a (.dK kv)) := ⟨fun b o q n => by
  have ne : b ≠ a := fun z => by
    rw [z, e] at n
    cases n
  have := s.st b o (by rw [upd_ne ne]; exact q) (by rw [mset_ne ne]; exact n)
  exact ⟨by rw [upd_ne ne]; exact this.1, by rw [mset_ne ne]; exact this.2⟩, fun b o u q => by
  have ne : b ≠ a := fun z => by
    rw [z, h] at q
    cases q
  rw [upd_ne ne]
  exact s.fz b o u (by rw [upd_ne ne]; exact q)⟩
/-- what stands stays when the lock is let go, for what is held besides -/
theorem unlock_sto {μ' : Mu} {H' : Hp} (e' : μ' a = some (.rk kvs)) : Sto μ' H' (mset μ' a (.dk kvs)) (upd H' a (.dK kv)) := fun b o q n => by
  have ne : b ≠ a := fun z => by
    rw [z, e'] at n
    cases n
  exact ⟨by rw [upd_ne ne]; exact q, by rw [mset_ne ne]; exact n⟩
theorem lock_back {μ' : Mu} {H' : Hp} (m : Mem K H' μ') (e : μ a = some (.dk kvs)) (h : H a = some (.dK kv)) (s : Stp (mset μ a (.rk kvs)) (upd H a (.frz od (.dK kv))) μ' H') (e' : μ' a = some (.rk kvs)) : H' a = some (.frz od (.dK kv)) ∧ Mem K (upd H' a (.dK kv)) (mset μ' a (.dk kvs)) := by
  have hf := s.fz a od _ (upd_same (H := H))
  refine ⟨hf, m.sto (unlock_sto e') fun b o q => ?_⟩
  by_cases hb : b = a
  · subst hb
    rw [mset_same] at q
    cases q
    obtain ⟨o2, kv2, h1, h2⟩ := m _ _ e'
    rw [hf] at h1
    cases h1
    exact .inr ⟨kv, upd_same, h2.sto (unlock_sto e')⟩
  · rw [mset_ne hb] at q
    exact .inl ⟨q, upd_ne hb⟩
end
theorem qe_lock {X : Cx} {E : L2.St → XK} {e : Expr} {f : FE} (h : QE X E e f) : QE X E e (eLock f) := ⟨(pe_lock h.pe).qimp fun σ H Q h => by
  obtain ⟨ρ, μ, P, XX, hh, hm, ⟨a, kvs, e, hf⟩, hv, hx⟩ := h
  obtain ⟨kv, h1, h2⟩ := hm _ _ e
  refine ⟨a, .dK kv, h1, by trivial, fun od => ⟨ρ, _, _, _, hh.stp (lock_in e h1), lock_mem hm e h1 h2, hf, fun w μ' v H' n s m r => ?_, hx.stp (lock_in e h1)⟩⟩
  obtain ⟨q1, q2⟩ := lock_back m e h1 s n.1
  exact ⟨q1, hv w _ v _ n.2 (lock_out e h1 s) q2 (r.sto (unlock_sto n.1))⟩⟩
end Q
namespace Q
open PySem PySem.Spec PyProof.Rows L2 Evl
/-! comprehensions: what is made is tracked while it is made; nothing is raised within -/
@[reducible] def wv : Rho → List Nat → Rho
  | ρ, [] => ρ
  | ρ, v :: vs => hv (wv ρ vs) v
theorem Holds.wv {K : Frag} {H : Hp} {μ : Mu} {σ : L2.St} {ρ : Rho} (h : Holds K H μ σ ρ) : ∀ vs : List Nat, Holds K H μ (wipe σ vs) (Q.wv ρ vs)
  | [] => h
  | v :: vs => by
    show Holds K H μ ((wipe σ vs).set v none) (hv (Q.wv ρ vs) v)
    rw [hv_set]
    exact (Holds.wv h vs).hide v
/-! targets of own names -/
def tGv (K : Frag) (g : FG) (vs : List Nat) : TG := fun v σ H Q => ∃ w ρ μ P, Rw K H μ v w ∧ Holds K H μ σ ρ ∧ Mem K H μ ∧ g w ρ μ P ∧ ∀ ρ' μ' σ' H', P ρ' μ' → Stp μ H μ' H' → Mem K H' μ' → Holds K H' μ' σ' ρ' → wipe σ' vs = wipe σ vs → Q σ' H'
def tGvs (K : Frag) (g : FGs) (vs : List Nat) : TGs := fun us σ H Q => ∃ ws ρ μ P, RwAll K H μ us ws ∧ Holds K H μ σ ρ ∧ Mem K H μ ∧ g ws ρ μ P ∧ ∀ ρ' μ' σ' H', P ρ' μ' → Stp μ H μ' H' → Mem K H' μ' → Holds K H' μ' σ' ρ' → wipe σ' vs = wipe σ vs → Q σ' H'
structure QGv (X : Cx) (e : Expr) (g : FG) (vs : List Nat) : Prop where
  pg : PG X e (tGv X.K g vs)
structure QGvs (X : Cx) (es : List Expr) (g : FGs) (vs : List Nat) : Prop where
  pgs : PGs X es (tGvs X.K g vs)
theorem wipe_put {σ : L2.St} {i : Nat} {x : Option V} {vs : List Nat} (h : i ∈ vs) : wipe (σ.set i x) vs = wipe σ vs := by
  induction vs with
  | nil => cases h
  | cons v vs ih =>
    show (wipe (σ.set i x) vs).set v none = (wipe σ vs).set v none
    by_cases hm : i ∈ vs
    · rw [ih hm]
    · rcases List.mem_cons.mp h with e | e
      · subst e
        have key : ∀ (us : List Nat), i ∉ us → wipe (σ.set i x) us = (wipe σ us).set i x := by
          intro us
          induction us with
          | nil => intro _; rfl
          | cons u us ih2 =>
            intro hu
            show (wipe (σ.set i x) us).set u none = ((wipe σ us).set u none).set i x
            rw [ih2 (fun z => hu (List.mem_cons_of_mem _ z)), List.set_comm _ _ (fun z => hu (by rw [z]; exact List.mem_cons_self))]
        rw [key vs hm, List.set_set]
      · exact absurd e hm
theorem wipe_wipe (σ : L2.St) (us : List Nat) : wipe (wipe σ us) us = wipe σ us := by
  have key : ∀ (as bs : List Nat), (∀ a ∈ as, a ∈ bs) → wipe (wipe σ as) bs = wipe σ bs := by
    intro as bs
    induction as with
    | nil => intro _; rfl
    | cons a as ih =>
      intro h
      show wipe ((wipe σ as).set a none) bs = _
      rw [wipe_put (h a List.mem_cons_self), ih fun z hz => h z (List.mem_cons_of_mem _ hz)]
  exact key us us fun _ h => h
theorem qgv_name {X : Cx} {i : Nat} {x : Str} {pos : Pos} {vs : List Nat} (hN : X.N.Nodup) (hi : X.N[i]? = some x) (hx : Loc X.env.scope x) (hm : i ∈ vs := by decide) (hf : X.fn x = true ∨ X.env.scope.names.lookup x = some .local := by first | exact .inl rfl | exact .inr rfl | assumption) : QGv X (.Name x pos) (gN i) vs := ⟨(pg_name hN hi hx hf).qimp fun v σ H Q h => by
  obtain ⟨w, ρ, μ, P, r, hh, hmm, hg, q⟩ := h
  exact q _ μ _ H hg (Stp.refl μ H) hmm (hh.sv i r) (wipe_put hm)⟩
theorem qgvs_nil {X : Cx} {vs : List Nat} : QGvs X [] gsNil vs := ⟨(pgs_nil (X := X)).qimp fun us σ H Q h => by
  obtain ⟨ws, ρ, μ, P, r, hh, hm, hg, q⟩ := h
  cases r with
  | nil => exact ⟨rfl, q ρ μ σ H hg (Stp.refl μ H) hm hh rfl⟩
  | cons _ _ => exact hg.elim⟩
theorem qgvs_cons {X : Cx} {e : Expr} {es : List Expr} {g : FG} {r : FGs} {vs : List Nat} (h1 : QGv X e g vs) (h2 : QGvs X es r vs)
    (hs : (assignEach (e :: es) X.env).map (·.2) = assign e X.env :: (assignEach es X.env).map (·.2) := by rfl) : QGvs X (e :: es) (gsCons g r) vs := ⟨(pgs_cons h1.pg h2.pgs hs).qimp fun us σ H Q h => by
  obtain ⟨ws, ρ, μ, P, r, hh, hm, hg, q⟩ := h
  cases r with
  | nil => exact hg.elim
  | @cons v vr w wr r rr => exact ⟨v, vr, rfl, w, ρ, μ, _, r, hh, hm, hg, fun ρ1 μ1 σ1 H1 p1 e1 m1 h1 w1 => ⟨wr, ρ1, μ1, P, rr.stp e1, h1, m1, p1, fun ρ' μ' σ' H' p e m h w2 => q ρ' μ' σ' H' p (e1.trans e) m h (w2.trans w1)⟩⟩⟩
theorem qgv_tup {X : Cx} {es : List Expr} {k : Nat} {g : FGs} {n : Nat} {pos : Pos} {vs : List Nat} (hc : X.calm = true) (h : QGvs X es g vs)
    (hn : (assignEach es X.env).length = n := by rfl) (hst : (assignEach es X.env).findIdx? (·.1) = none := by rfl) : QGv X (.Tuple es k pos) (gT n g) vs := ⟨(pg_tup hc h.pgs hn hst).qimp fun v σ H Q h => by
  obtain ⟨w, ρ, μ, P, r, hh, hm, hg, q⟩ := h
  cases r with
  | tup hq hs => exact ⟨_, _, rfl, tup_sq hq, hs.len.trans hg.1, _, ρ, μ, P, hs, hh, hm, hg.2, q⟩
  | _ => exact hg.elim⟩
/-! tests -/
@[reducible] def cYes : FT := fun _ μ P _ => P true μ
structure QTs (X : Cx) (ifs : List Expr) (f : FT) : Prop where
  pts : PTs X ifs (tT X.K EN f)
theorem _root_.L2.PTs.qimp {X : Cx} {e : List Expr} {t t' : TT} (h : PTs X e t) (k : ∀ σ H Q, t' σ H Q → t σ H Q) : PTs X e t' := ⟨fun pins s σ H Q I q => h.run pins s σ H Q I (k σ H Q q)⟩
theorem qts_nil {X : Cx} : QTs X [] cYes := ⟨(pts_nil (X := X)).qimp fun σ H Q h => by
  obtain ⟨ρ, μ, P, XX, hh, hm, hf, hv, hx⟩ := h
  exact hv true μ H hf (Stp.refl μ H) hm⟩
theorem qts_one {X : Cx} {c : Expr} {f : FT} (h : QT X EN c f) : QTs X [c] f := ⟨pts_one h.pt⟩
/-! [e for .. in .. if c] -/
def lcS (std : Mu → Prop) (g : FG) (c : FT) (e : FE) (p : Addr) (k : List W → Mu → Prop) (ρ : Rho) : List W → List W → Mu → Prop
  | [], acc, μ => std μ ∧ k acc μ
  | w :: ws, acc, μ => std μ ∧ g w ρ μ fun ρ2 μ2 => c ρ2 μ2 (fun b μ3 => if b = true then e ρ2 μ3 (fun y μ4 => μ4 p = some (.ls acc) ∧ acc.length < 16000000 ∧ lcS std g c e p k ρ ws (acc ++ [y]) (mset μ4 p (.ls (acc ++ [y])))) (fun _ _ _ => False) else μ3 p = some (.ls acc) ∧ lcS std g c e p k ρ ws acc μ3) (fun _ _ _ => False)
/-- .. as a value (V), tracked (R) -/
def lcVK (std : Mu → Prop) (g : FG) (c : FT) (e : FE) (ρ : Rho) (ws : List W) (P : Po) (μ1 : Mu) : Prop := ∀ p, μ1 p = none → lcS std g c e p (fun acc μ' => ∃ μ'', Sub μ'' μ' ∧ μ'' p = none ∧ P (.lst acc) μ'') ρ ws [] (mset μ1 p (.ls []))
@[reducible] def eLcV (i : FI) (vs : List Nat) (g : FG) (c : FT) (e : FE) : FE := fun ρ μ P X => i ρ μ (fun std ws μ1 => lcVK std g c e (wv ρ vs) ws P μ1) X
theorem xl_no {K : Frag} {μ : Mu} {H : Hp} {σ : L2.St} : XL K (EN σ) μ H (fun _ _ _ => False) := fun _ _ _ _ _ z => z.elim
theorem lc_tl {K : Frag} {E : L2.St → XK} {fi : FI} {g : FG} {c : FT} {e : FE} {vs : List Nat} {σ : L2.St} {H : Hp} {Q : VK} {kk : (Po) → Addr → List W → Mu → Prop} {ρ : Rho} {μ : Mu} {P : Po} {X : Xo}
    (hk : ∀ p acc μ' H', kk P p acc μ' → μ' p = some (.ls acc) → Stp μ H μ' H' → Mem K H' μ' → Q (.ref p) H')
    (hh : Holds K H μ σ ρ) (hm : Mem K H μ) (hf : fi ρ μ (fun std ws μ1 => ∀ p, μ1 p = none → lcS std g c e p (kk P p) (wv ρ vs) ws [] (mset μ1 p (.ls []))) X) (hx : XL K (E σ) μ H X) : tLc (tI K E fi) (tGv K g vs) (tT K EN c) (tE K EN e) vs σ H Q := by
  refine ⟨ρ, μ, _, X, hh, hm, hf, fun std ws μ1 H1 J Rel p1 e1 m1 rel itw D hD => ?_, hx⟩
  have hp := m1.free hD
  have sD : Stp μ1 H1 (mset μ1 D (.ls [])) (upd H1 D (.lst [])) := Stp.newT hD
  refine ⟨fun i m H' => m = ws.length - i ∧ i ≤ ws.length ∧ ∃ acc μ', lcS std g c e D (kk P D) (wv ρ vs) (ws.drop i) acc μ' ∧ μ' D = some (.ls acc) ∧ Stp μ1 H1 μ' H' ∧ Mem K H' μ', ⟨ws.length, by simp, Nat.zero_le _, [], _, by simpa using p1 D hp, mset_same, sD, new_ls m1 hD .nil⟩, ?_⟩
  rintro i m H' ⟨rfl, hi2, acc, μ', q, eD, e2, m2⟩
  have rel2 := itw.mono _ _ _ _ rel e2
  by_cases hlt : i < ws.length
  · have ed : ws.drop i = ws[i] :: ws.drop (i + 1) := List.drop_eq_getElem_cons hlt
    rw [ed] at q
    obtain ⟨hstd, q⟩ := q
    refine .inr ⟨itw.go i H' μ' rel2 m2 hstd hlt, fun H3 => ∃ acc μ3, lcS std g c e D (kk P D) (wv ρ vs) (ws.drop (i + 1)) acc μ3 ∧ μ3 D = some (.ls acc) ∧ Stp μ1 H1 μ3 H3 ∧ Mem K H3 μ3, fun H3 z => ⟨ws.length - (i + 1), by omega, rfl, hlt, z⟩, fun x H3 y => ?_⟩
    obtain ⟨e3, m3, r3⟩ := itw.yld i H' μ' x H3 _ rel2 m2 hstd (List.getElem?_eq_getElem hlt) y
    have e13 := e2.trans e3
    have e03 := e1.trans e13
    refine ⟨_, wv ρ vs, μ', _, r3, (hh.stp e03).wv vs, m3, q, fun ρ4 μ4 σ4 H4 p4 e4 m4 h4 w4 => ⟨w4.trans (wipe_wipe σ vs), ρ4, μ4, _, _, h4, m4, p4, fun b μ5 H5 p5 e5 m5 => ?_, xl_no⟩⟩
    · cases b with
      | true => 
        refine iteT ⟨ρ4, μ5, _, _, h4.stp e5, m5, (if_pos rfl).mp p5, fun y μ6 v H6 p6 e6 m6 r6 => ?_, xl_no⟩
        obtain ⟨q1, q2, q3⟩ := p6
        obtain ⟨vs', h1, h2⟩ := m6 _ _ q1
        have st : Stp μ6 H6 (mset μ6 D (.ls (acc ++ [y]))) (upd H6 D (.lst (vs' ++ [v]))) := Stp.put q1 (nf_lst h1)
        refine ⟨vs', h1, by rw [h2.len]; exact biglt q2, acc ++ [y], _, q3, mset_same, (((e13.trans e4).trans e5).trans e6).trans st, m6.put st ⟨_, upd_same, (h2.app (.cons r6 .nil)).stp st⟩⟩
      | false =>
        have p5 := (if_neg (by decide)).mp p5
        exact iteF ⟨acc, μ5, p5.2, p5.1, (e13.trans e4).trans e5, m5⟩
  · have ei : i = ws.length := by omega
    subst ei
    rw [List.drop_length] at q
    exact .inl ⟨itw.stop _ H' μ' rel2 m2 q.1 (Nat.le_refl _), hk D acc μ' H' q.2 eD (e1.trans e2) m2⟩
theorem lcV_tl {K : Frag} {E : L2.St → XK} {fi : FI} {g : FG} {c : FT} {e : FE} {vs : List Nat} {σ : L2.St} {H : Hp} {Q : VK} (h : tE K E (eLcV fi vs g c e) σ H Q) : tLc (tI K E fi) (tGv K g vs) (tT K EN c) (tE K EN e) vs σ H Q := by
  obtain ⟨ρ, μ, P, XX, hh, hm, hf, hv, hx⟩ := h
  refine lc_tl (kk := fun P p acc μ' => ∃ μ'', Sub μ'' μ' ∧ μ'' p = none ∧ P (.lst acc) μ'') (fun p acc μ' H' ⟨μ'', s, n, hP⟩ ep e' m' => ?_) hh hm hf hx
  obtain ⟨us, h1, h2⟩ := m' _ _ ep
  exact hv _ μ'' _ H' hP (e'.trans (s.stp H')) (s.mem m') (.lst ⟨h1, n⟩ (h2.stp (s.stp H')))
section
variable {X : Cx} {E : L2.St → XK} {elt tg iter : Expr} {ifs : List Expr} {scope : Scope} {own : List (Str × Nat)} {pos : Pos} {fi : FI} {g : FG} {c : FT} {e : FE}
theorem qe_lcV (hc : X.calm = true) (hN : X.N.Nodup) (hi : QI X E tg iter fi) (ok : BlkOk X.N X.env.scope scope own)
    (hg : ∀ (s : Shared) (H : Hp) (C : Addr) (cl : List (Str × Addr)) (fp : List Addr), QGv (X.blk s H scope (compEnvC scope cl C X.env) fp) tg g (own.map (·.2))) (ht : ∀ (s : Shared) (H : Hp) (C : Addr) (cl : List (Str × Addr)) (fp : List Addr), QTs (X.blk s H scope (compEnvC scope cl C X.env) fp) ifs c)
    (he : ∀ (s : Shared) (H : Hp) (C : Addr) (cl : List (Str × Addr)) (fp : List Addr), QE (X.blk s H scope (compEnvC scope cl C X.env) fp) EN elt e) (hs : ∀ x, foldedSetIterable iter X.env x = pure x := by intro _; rfl) :
    QE X E (.ListComp elt [⟨tg, iter, ifs, 0⟩] scope pos) (eLcV fi (own.map (·.2)) g c e) := ⟨(pe_lc hc hN hi.pi ok (fun s H C cl fp => (hg s H C cl fp).pg) (fun s H C cl fp => (ht s H C cl fp).pts) (fun s H C cl fp => (he s H C cl fp).pe) hs).qimp fun σ H Q h => lcV_tl h⟩
end
/-! {k: v for .. in .. if c} -/
def dcS (std : Mu → Prop) (g : FG) (c : FT) (ek ev : FE) (p : Addr) (k : Mu → Prop) (ρ : Rho) : List W → List (Key × W) → Mu → Prop
  | [], _, μ => std μ ∧ k μ
  | w :: ws, acc, μ => std μ ∧ g w ρ μ fun ρ2 μ2 => c ρ2 μ2 (fun b μ3 => if b = true then ek ρ2 μ3 (fun y μ4 => match kO y with
    | some kk => ev ρ2 μ4 (fun z μ5 => μ5 p = some (.dk acc) ∧ acc.length < 16000000 ∧ dcS std g c ek ev p k ρ ws (putW acc kk z) (mset μ5 p (.dk (putW acc kk z)))) (fun _ _ _ => False)
    | none => False) (fun _ _ _ => False) else μ3 p = some (.dk acc) ∧ dcS std g c ek ev p k ρ ws acc μ3) (fun _ _ _ => False)
def dcK (std : Mu → Prop) (g : FG) (c : FT) (ek ev : FE) (ρ : Rho) (ws : List W) (P : Po) (μ1 : Mu) : Prop := ∀ p, μ1 p = none → dcS std g c ek ev p (fun μ' => P (.ref p) μ') ρ ws [] (mset μ1 p (.dk []))
@[reducible] def eDc (i : FI) (vs : List Nat) (g : FG) (c : FT) (ek ev : FE) : FE := fun ρ μ P X => i ρ μ (fun std ws μ1 => dcK std g c ek ev (wv ρ vs) ws P μ1) X
theorem new_dk {K : Frag} {H : Hp} {μ : Mu} {p : Addr} (m : Mem K H μ) (hp : H p = none) : Mem K (upd H p (.dK [])) (mset μ p (.dk [])) := m.put (Stp.newT hp) ⟨[], upd_same, .nil⟩
theorem dc_tl {K : Frag} {E : L2.St → XK} {fi : FI} {g : FG} {c : FT} {ek ev : FE} {vs : List Nat} {σ : L2.St} {H : Hp} {Q : VK} (h : tE K E (eDc fi vs g c ek ev) σ H Q) : tDc (tI K E fi) (tGv K g vs) (tT K EN c) (tE K EN ek) (tE K EN ev) vs σ H Q := by
  obtain ⟨ρ, μ, P, X, hh, hm, hf, hv, hx⟩ := h
  refine ⟨ρ, μ, _, X, hh, hm, hf, fun std ws μ1 H1 J Rel p1 e1 m1 rel itw D hD => ?_, hx⟩
  have hp := m1.free hD
  have sD : Stp μ1 H1 (mset μ1 D (.dk [])) (upd H1 D (.dK [])) := Stp.newT hD
  refine ⟨fun i m H' => m = ws.length - i ∧ i ≤ ws.length ∧ ∃ acc μ', dcS std g c ek ev D (fun μ' => P (.ref D) μ') (wv ρ vs) (ws.drop i) acc μ' ∧ μ' D = some (.dk acc) ∧ Stp μ1 H1 μ' H' ∧ Mem K H' μ', ⟨ws.length, by simp, Nat.zero_le _, [], _, by simpa using p1 D hp, mset_same, sD, new_dk m1 hD⟩, ?_⟩
  rintro i m H' ⟨rfl, hi2, acc, μ', q, eD, e2, m2⟩
  have rel2 := itw.mono _ _ _ _ rel e2
  by_cases hlt : i < ws.length
  · have ed : ws.drop i = ws[i] :: ws.drop (i + 1) := List.drop_eq_getElem_cons hlt
    rw [ed] at q
    obtain ⟨hstd, q⟩ := q
    refine .inr ⟨itw.go i H' μ' rel2 m2 hstd hlt, fun H3 => ∃ acc μ3, dcS std g c ek ev D (fun μ' => P (.ref D) μ') (wv ρ vs) (ws.drop (i + 1)) acc μ3 ∧ μ3 D = some (.dk acc) ∧ Stp μ1 H1 μ3 H3 ∧ Mem K H3 μ3, fun H3 z => ⟨ws.length - (i + 1), by omega, rfl, hlt, z⟩, fun x H3 y => ?_⟩
    obtain ⟨e3, m3, r3⟩ := itw.yld i H' μ' x H3 _ rel2 m2 hstd (List.getElem?_eq_getElem hlt) y
    have e13 := e2.trans e3
    have e03 := e1.trans e13
    refine ⟨_, wv ρ vs, μ', _, r3, (hh.stp e03).wv vs, m3, q, fun ρ4 μ4 σ4 H4 p4 e4 m4 h4 w4 => ⟨w4.trans (wipe_wipe σ vs), ρ4, μ4, _, _, h4, m4, p4, fun b μ5 H5 p5 e5 m5 => ?_, xl_no⟩⟩
    cases b with
    | true =>
      refine iteT ⟨ρ4, μ5, _, _, h4.stp e5, m5, (if_pos rfl).mp p5, fun y μ6 u H6 p6 e6 m6 r6 => ?_, xl_no⟩
      dsimp only at p6
      split at p6
      · rename_i kk ek'
        have eu := kO_rw r6 ek'
        subst eu
        refine ⟨ρ4, μ6, _, _, (h4.stp e5).stp e6, m6, p6, fun z μ7 v H7 p7 e7 m7 r7 => ?_, xl_no⟩
        obtain ⟨q1, q2, q3⟩ := p7
        obtain ⟨kv, h1, h2⟩ := m7 _ _ q1
        have st : Stp μ7 H7 (mset μ7 D (.dk (putW acc kk z))) (upd H7 D (.dK (putK kv kk v))) := Stp.put q1 (nf_dk h1)
        exact ⟨kv, kk, rfl, h1, by rw [h2.len]; exact biglt q2, putW acc kk z, _, q3, mset_same, ((((e13.trans e4).trans e5).trans e6).trans e7).trans st, m7.put st ⟨_, upd_same, (rwp_put r7 h2).stp st⟩⟩
      · exact p6.elim
    | false =>
      have p5 := (if_neg (by decide)).mp p5
      exact iteF ⟨acc, μ5, p5.2, p5.1, (e13.trans e4).trans e5, m5⟩
  · have ei : i = ws.length := by omega
    subst ei
    rw [List.drop_length] at q
    exact .inl ⟨itw.stop _ H' μ' rel2 m2 q.1 (Nat.le_refl _), hv _ μ' _ H' q.2 (e1.trans e2) m2 (.ref D)⟩
section
variable {X : Cx} {E : L2.St → XK} {kx vx tg iter : Expr} {ifs : List Expr} {scope : Scope} {own : List (Str × Nat)} {pos : Pos} {fi : FI} {g : FG} {c : FT} {ek ev : FE}
theorem qe_dc (hc : X.calm = true) (hN : X.N.Nodup) (hi : QI X E tg iter fi) (ok : BlkOk X.N X.env.scope scope own)
    (hg : ∀ (s : Shared) (H : Hp) (C : Addr) (cl : List (Str × Addr)) (fp : List Addr), QGv (X.blk s H scope (compEnvC scope cl C X.env) fp) tg g (own.map (·.2))) (ht : ∀ (s : Shared) (H : Hp) (C : Addr) (cl : List (Str × Addr)) (fp : List Addr), QTs (X.blk s H scope (compEnvC scope cl C X.env) fp) ifs c)
    (hk : ∀ (s : Shared) (H : Hp) (C : Addr) (cl : List (Str × Addr)) (fp : List Addr), QE (X.blk s H scope (compEnvC scope cl C X.env) fp) EN kx ek)
    (he : ∀ (s : Shared) (H : Hp) (C : Addr) (cl : List (Str × Addr)) (fp : List Addr), QE (X.blk s H scope (compEnvC scope cl C X.env) fp) EN vx ev) (hs : ∀ x, foldedSetIterable iter X.env x = pure x := by intro _; rfl) :
    QE X E (.DictComp kx vx [⟨tg, iter, ifs, 0⟩] scope pos) (eDc fi (own.map (·.2)) g c ek ev) := ⟨(pe_dc hc hN hi.pi ok (fun s H C cl fp => (hg s H C cl fp).pg) (fun s H C cl fp => (ht s H C cl fp).pts) (fun s H C cl fp => (hk s H C cl fp).pe) (fun s H C cl fp => (he s H C cl fp).pe) hs).qimp fun σ H Q h => dc_tl h⟩
end
/-! ### what comprehensions come to, where their elements change nothing -/
/-- μ' holds all that μ holds -/
def Ext (μ μ' : Mu) : Prop := ∀ a o, μ a = some o → μ' a = some o
theorem Ext.new {μ : Mu} {p : Addr} {o : O} (h : μ p = none) : Ext μ (mset μ p o) := fun a u e => by
  rw [mset_ne fun z => by
    rw [z, h] at e
    cases e]
  exact e
abbrev noX : Xo := fun _ _ _ => False
abbrev DcAt (g : FG) (c : FT) (ek ev : FE) (ρ : Rho) (f : W → Option (Key × W)) (μ' : Mu) (w : W) : Prop := ∀ (N : Mu → Prop) (Y : Key → W → Mu → Prop), (f w = none → N μ') → (∀ q y, f w = some (q, y) → Y q y μ') → g w ρ μ' fun ρ2 μ2 => c ρ2 μ2 (fun b μ3 => if b = true then ek ρ2 μ3 (fun y μ4 => match kO y with
    | some kk => ev ρ2 μ4 (fun z μ5 => Y kk z μ5) noX
    | none => False) noX else N μ3) noX
def putsW (acc : List (Key × W)) : List (Key × W) → List (Key × W)
  | [] => acc
  | (k, z) :: r => putsW (putW acc k z) r
theorem putW_len {κ : Type} [DecidableEq κ] (kvs : List (κ × W)) (k : κ) (v : W) : (putW kvs k v).length ≤ kvs.length + 1 := by
  unfold putW
  split
  · rw [List.length_map]
    omega
  · rw [List.length_append]
    exact Nat.le_refl _
theorem dc_pure {std : Mu → Prop} {g : FG} {c : FT} {ek ev : FE} {ρ : Rho} {μ : Mu} {p : Addr} {k : Mu → Prop} (f : W → Option (Key × W)) (hp : μ p = none) (hstd : ∀ μ', Ext μ μ' → std μ') : ∀ (ws : List W) (acc : List (Key × W)), acc.length + ws.length ≤ 16000000 →
    (∀ w ∈ ws, ∀ μ', Ext μ μ' → DcAt g c ek ev ρ f μ' w) → k (mset μ p (.dk (putsW acc (ws.filterMap f)))) → dcS std g c ek ev p k ρ ws acc (mset μ p (.dk acc))
  | [], acc, _, _, hk => ⟨hstd _ (Ext.new hp), hk⟩
  | w :: ws, acc, hz, h, hk => by
    rw [List.length_cons] at hz
    refine ⟨hstd _ (Ext.new hp), h w List.mem_cons_self _ (Ext.new hp) (fun μ3 => μ3 p = some (.dk acc) ∧ dcS std g c ek ev p k ρ ws acc μ3) (fun q z μ5 => μ5 p = some (.dk acc) ∧ acc.length < 16000000 ∧ dcS std g c ek ev p k ρ ws (putW acc q z) (mset μ5 p (.dk (putW acc q z)))) (fun hf => ?_) fun q z hf => ?_⟩
    · rw [List.filterMap_cons_none hf] at hk
      exact ⟨mset_same, dc_pure f hp hstd ws acc (by omega) (fun x hx => h x (List.mem_cons_of_mem _ hx)) hk⟩
    · rw [List.filterMap_cons_some hf] at hk
      refine ⟨mset_same, by omega, ?_⟩
      rw [mset_mset]
      have := putW_len acc q z
      exact dc_pure f hp hstd ws (putW acc q z) (by omega) (fun x hx => h x (List.mem_cons_of_mem _ hx)) hk
theorem dc_pureK {std : Mu → Prop} {g : FG} {c : FT} {ek ev : FE} {ρ : Rho} {μ : Mu} {P : Po} {ws : List W} (f : W → Option (Key × W)) (hstd : ∀ μ', Ext μ μ' → std μ') (hz : ws.length ≤ 16000000)
    (h : ∀ w ∈ ws, ∀ μ', Ext μ μ' → DcAt g c ek ev ρ f μ' w) (hk : ∀ p, μ p = none → P (.ref p) (mset μ p (.dk (putsW [] (ws.filterMap f))))) : dcK std g c ek ev ρ ws P μ := fun p hp =>
  dc_pure (k := fun μ' => P (.ref p) μ') f hp hstd ws [] (by simpa using hz) h (hk p hp)
end Q
namespace Q.So
open PySem L2 Evl
open Q (sLt)
theorem cmpS_gt {P : Program} {w : World} {A : Around} {B : Nat → Value → Prop} (z : Nat → Str) (hz : ∀ i v, B i v → ∃ t, v = .str (z i) t) : CmpOf P w A .Gt B (fun i j => decide ((z j).cps.toList < (z i).cps.toList)) := by
  intro i j vi vj s Q E bi bj h
  obtain ⟨t, rfl⟩ := hz i vi bi
  obtain ⟨u, rfl⟩ := hz j vj bj
  refine richCompare_gives (op := .Gt) (typeIs_str s _ t) (typeIs_str s _ u) F.slot_str_gt F.entry_str_gt ?_ (gives_str_gt _ _ t u) (fun q => nomatch q) h
  exact F.args_str_gt_2 _ _
theorem cmpS_lt {P : Program} {w : World} {A : Around} {B : Nat → Value → Prop} (z : Nat → Str) (hz : ∀ i v, B i v → ∃ t, v = .str (z i) t) : CmpOf P w A .Lt B (fun i j => decide ((z i).cps.toList < (z j).cps.toList)) := by
  intro i j vi vj s Q E bi bj h
  obtain ⟨t, rfl⟩ := hz i vi bi
  obtain ⟨u, rfl⟩ := hz j vj bj
  refine richCompare_gives (op := .Lt) (typeIs_str s _ t) (typeIs_str s _ u) F.slot_str_lt F.entry_str_lt ?_ (gives_str_lt _ _ t u) (fun q => nomatch q) h
  exact F.args_str_lt_2 _ _
section
variable {prog : Program} {w : World} {A : Around} {E : Value → Shared → Prop} {s : Shared}
/-- the walk over the pair that max, min lay down -/
theorem pair_walk {op : CmpOp} {a b : Value} {bt : Nat → Nat → Bool} {Q : Value → Shared → Prop} (hh : A.handled = none) (hc : CmpOf prog w A.in1 op (fun i v => (#[a, b] : Array Value)[i]? = some v) bt)
    (h : ∀ h' tk, (∀ c o, s.heap.get? c = some o → h'.get? c = some o) → Q (if bt 1 0 = true then b else a) { s with heap := h', toks := tk }) :
    wpAny (model prog w) A.in1 (pyIter (.ref s.heap.objs.size)) (fun it s₂ => ∃ I fp wr n P St bt, it = .ref I ∧ Walks prog w A.in1 I fp wr n P St ∧ St 0 s₂.heap ∧ (∀ b ∈ fp, b < s₂.heap.objs.size) ∧ 0 < n ∧ CmpOf prog w A.in1 op P bt ∧
      ∀ v h' tk, P (argBest bt (n - 1)) v → (∀ b o, b ∉ wr → s₂.heap.get? b = some o → h'.get? b = some o) → Q v { s₂ with heap := h', toks := tk }) E
      { s with heap := s.heap.push { cls := .type "tuple", data := .seq #[a, b] } } := by
  have new : (s.heap.push { cls := .type "tuple", data := .seq #[a, b] }).IsTuple s.heap.objs.size #[a, b] := ⟨_, Heap.get?_push_size _ rfl, rfl, 0, rfl⟩
  have sz : (s.heap.push { cls := .type "tuple", data := .seq #[a, b] }).objs.size = s.heap.objs.size + 1 := Heap.size_push ..
  refine wpAny_pyIter_tuple new ?_
  refine ⟨_, [_, s.heap.objs.size], [_], 2, _, _, bt, rfl, Walks.tuple (A := A.in1) hh _ s.heap.objs.size (fun z => Nat.succ_ne_self _ (sz.symm.trans z.symm)) #[a, b], ?_, ?_, by decide, hc, ?_⟩
  · exact ⟨⟨_, Heap.get?_push_size _ rfl, rfl, rfl⟩, new.push _⟩
  · intro c hm
    show c < ((s.heap.push _).push _).objs.size
    rw [Heap.size_push, sz]
    simp only [List.mem_cons, List.not_mem_nil, or_false] at hm
    rcases hm with rfl | rfl
    · rw [sz]
      exact Nat.lt_succ_self _
    · exact Nat.lt_succ_of_lt (Nat.lt_succ_self _)
  · intro v h' tk hP hk
    have old : ∀ c o, s.heap.get? c = some o → h'.get? c = some o := by
      intro c o e
      refine hk c o ?_ (Heap.get?_push_of_some _ (Heap.get?_push_of_some _ e))
      intro hm
      simp only [List.mem_cons, List.not_mem_nil, or_false] at hm
      have l := Heap.lt_size e
      rw [hm, sz] at l
      exact Nat.lt_irrefl _ (Nat.lt_of_succ_lt l)
    have q := h h' tk old
    have hv : v = if bt 1 0 = true then b else a := by
      have hb : argBest bt (2 - 1) = if bt 1 0 = true then 1 else 0 := by simp [argBest]
      rw [hb] at hP
      by_cases c : bt 1 0 = true
      · rw [if_pos c] at hP ⊢
        simpa using hP.symm
      · rw [if_neg c] at hP ⊢
        simpa using hP.symm
    rw [hv]
    exact q
theorem sAt {x y : Str} {t u : Tok} (i : Nat) (v : Value) (h : (#[Value.str x t, Value.str y u] : Array Value)[i]? = some v) : ∃ t', v = .str (if i = 0 then x else y) t' := by
  match i, h with
  | 0, h => exact ⟨t, by simpa using h.symm⟩
  | 1, h => exact ⟨u, by simpa using h.symm⟩
  | n + 2, h => simp at h
end
def sMax (x y : Str) : Str := if sLt x y = true then y else x
def sMin (x y : Str) : Str := if sLt y x = true then y else x
def rMaxS : List V → Hp → VK → Prop := fun xs H Q => ∃ x y, xs = [.str x, .str y] ∧ Q (.str (sMax x y)) H
def rMinS : List V → Hp → VK → Prop := fun xs H Q => ∃ x y, xs = [.str x, .str y] ∧ Q (.str (sMin x y)) H
theorem cr_maxS {X : Cx} (hc : X.calm = true) : CallR X (.builtin "max") rMaxS := by
  intro pins s σ H xs us Q I r h
  obtain ⟨x, y, rfl, q⟩ := h
  obtain ⟨u1, u2, rfl, ⟨t, rfl⟩, ⟨t', rfl⟩⟩ := vals2 r
  refine call_max_two (pair_walk (I.ok.hd hc) (cmpS_gt (fun i => if i = 0 then x else y) (fun i v => sAt i v)) fun h' tk k => ⟨_, H, I.kept k, ?_, q⟩)
  unfold sMax sLt
  by_cases c : x.cps.toList < y.cps.toList
  · simp [c]
    exact ⟨_, rfl⟩
  · simp [c]
    exact ⟨_, rfl⟩
theorem cr_minS {X : Cx} (hc : X.calm = true) : CallR X (.builtin "min") rMinS := by
  intro pins s σ H xs us Q I r h
  obtain ⟨x, y, rfl, q⟩ := h
  obtain ⟨u1, u2, rfl, ⟨t, rfl⟩, ⟨t', rfl⟩⟩ := vals2 r
  refine call_min_two (pair_walk (I.ok.hd hc) (cmpS_lt (fun i => if i = 0 then x else y) (fun i v => sAt i v)) fun h' tk k => ⟨_, H, I.kept k, ?_, q⟩)
  unfold sMin sLt
  by_cases c : y.cps.toList < x.cps.toList
  · simp [c]
    exact ⟨_, rfl⟩
  · simp [c]
    exact ⟨_, rfl⟩
theorem sLt_irr (x : Str) : sLt x x = false := by
  unfold sLt
  exact decide_eq_false (List.lt_irrefl _)
theorem sLt_tr {x y z : Str} (h1 : sLt x y = true) (h2 : sLt y z = true) : sLt x z = true := by
  unfold sLt at *
  exact decide_eq_true (List.lt_trans (of_decide_eq_true h1) (of_decide_eq_true h2))
theorem str_eq {x y : Str} (h : x.cps.toList = y.cps.toList) : x = y := by
  cases x
  cases y
  exact congrArg _ (Array.toList_inj.mp h)
theorem sLt_tri (x y : Str) : sLt x y = true ∨ x = y ∨ sLt y x = true := by
  unfold sLt
  by_cases h1 : x.cps.toList < y.cps.toList
  · exact .inl (decide_eq_true h1)
  · by_cases h2 : y.cps.toList < x.cps.toList
    · exact .inr (.inr (decide_eq_true h2))
    · exact .inr (.inl (str_eq (List.le_antisymm (List.not_lt.mp h2) (List.not_lt.mp h1))))
theorem sLt_as {x y : Str} (h : sLt x y = true) : sLt y x = false := by
  cases e : sLt y x with
  | false => rfl
  | true =>
    have q := sLt_tr h e
    rw [sLt_irr] at q
    cases q
theorem sLt_asym {a b : Str} (h : sLt a b = true) : sLt b a = false := sLt_as h
/-- the order of texts is total, so a sorted arrangement is the only one -/
def leS (a b : Str) : Bool := !sLt b a
theorem leS_tr (a b c : Str) (h1 : leS a b = true) (h2 : leS b c = true) : leS a c = true := by
  unfold leS at *
  cases q : sLt c a with
  | false => rfl
  | true =>
    rcases sLt_tri b c with h | h | h
    · have := sLt_tr h q
      rw [this] at h1
      cases h1
    · subst h
      rw [q] at h1
      cases h1
    · rw [h] at h2
      cases h2
theorem leS_tot (a b : Str) : (leS a b || leS b a) = true := by
  unfold leS
  rcases sLt_tri a b with h | h | h
  · rw [sLt_as h]
    rfl
  · subst h
    rw [sLt_irr]
    rfl
  · rw [h, sLt_as h]
    rfl
theorem leS_anti {a b : Str} (h1 : leS a b = true) (h2 : leS b a = true) : a = b := by
  unfold leS at *
  rcases sLt_tri a b with h | h | h
  · rw [h] at h2
    cases h2
  · exact h
  · rw [h] at h1
    cases h1
def sortS (ks : List Str) : List Str := ks.mergeSort leS
theorem sortS_perm (ks : List Str) : (sortS ks).Perm ks := List.mergeSort_perm ks leS
theorem sortS_pw (ks : List Str) : (sortS ks).Pairwise (fun a b => leS a b = true) := List.pairwise_mergeSort leS_tr leS_tot ks
theorem rising_pw : ∀ (p : Str) (l : List Str), PyProof.Rows.risingS p l = true → (p :: l).Pairwise (fun a b => leS a b = true)
  | p, [], _ => by simp
  | p, x :: r, h => by
    unfold PyProof.Rows.risingS at h
    obtain ⟨h1, h2⟩ := Bool.and_eq_true_iff.mp h
    have ih := rising_pw x r h2
    have hpx : leS p x = true := by
      unfold leS sLt
      rw [PyProof.Rows.lt_meets]
      exact h1
    refine List.pairwise_cons.mpr ⟨fun y hy => ?_, ih⟩
    rcases List.mem_cons.mp hy with e | e
    · rw [e]
      exact hpx
    · exact leS_tr p x y hpx ((List.pairwise_cons.mp ih).1 y e)
theorem sorted_pw {l : List Str} (h : PyProof.Rows.sortedS l = true) : l.Pairwise (fun a b => leS a b = true) := by
  cases l with
  | nil => exact List.Pairwise.nil
  | cons x r => exact rising_pw x r h
theorem pw_only {a b : List Str} (hp : a.Perm b) (ha : a.Pairwise (fun a b => leS a b = true)) (hb : b.Pairwise (fun a b => leS a b = true)) : a = b :=
  List.Perm.eq_of_pairwise (le := fun a b => leS a b = true) (fun _ _ _ _ h1 h2 => leS_anti h1 h2) ha hb hp
theorem sorted_only {ks ys : List Str} (hp : ys.Perm ks) (h : PyProof.Rows.sortedS ys = true) : ys = sortS ks := pw_only (hp.trans (sortS_perm ks).symm) (sorted_pw h) (sortS_pw ks)
open PyProof.Rows SrtO Srt
def sv : Value → Str
  | .str x _ => x
  | _ => ""
def ltSv (v u : Value) : Bool := sLt (sv v) (sv u)
theorem swo_str : Swo ltSv := by
  refine ⟨fun x y h => sLt_asym h, fun x y z h1 h2 => ?_⟩
  have l1 : leS (sv x) (sv y) = true := by unfold leS; rw [show sLt (sv y) (sv x) = false from h1]; rfl
  have l2 : leS (sv y) (sv z) = true := by unfold leS; rw [show sLt (sv z) (sv y) = false from h2]; rfl
  have l3 := leS_tr _ _ _ l1 l2
  unfold leS at l3
  show sLt (sv z) (sv x) = false
  cases e : sLt (sv z) (sv x) with
  | false => rfl
  | true =>
    rw [e] at l3
    cases l3
theorem strs_mem : ∀ {vs : List Value} {ss : List Str}, StrsAre vs ss → ∀ v ∈ vs, ∃ x t, v = Value.str x t
  | _, _, .nil, v, h => absurd h (by simp)
  | _, _, .cons n t r, v, h => by
    rcases List.mem_cons.mp h with e | h
    · exact ⟨n, t, e⟩
    · exact strs_mem r v h
theorem strs_sv : ∀ {vs : List Value}, (∀ v ∈ vs, ∃ x t, v = Value.str x t) → StrsAre vs (vs.map sv)
  | [], _ => .nil
  | v :: vs, h => by
    obtain ⟨i, t, e⟩ := h v List.mem_cons_self
    subst e
    exact .cons i t (strs_sv fun u hu => h u (List.mem_cons_of_mem _ hu))
theorem sv_strs : ∀ {vs : List Value} {ns : List Str}, StrsAre vs ns → vs.map sv = ns
  | _, _, .nil => rfl
  | _, _, .cons n t r => congrArg (n :: ·) (sv_strs r)
section
variable {prog : Program} {w : World} {A : Around} {E : Value → Shared → Prop} {s : Shared}
theorem str_cmp {vs : List Value} {ns : List Str} (hI : StrsAre vs ns) : Cmp prog w A s oneType' (fun p => p.1 ∈ vs) (lt2 ltSv) := by
  intro p q hm hm'
  obtain ⟨a, t, e⟩ := strs_mem hI _ hm
  obtain ⟨b, u, e'⟩ := strs_mem hI _ hm'
  show wpAny (model prog w) A (keyLt' oneType' p.1 q.1) (fun r s' => s' = s ∧ r = ltSv p.1 q.1) (fun _ _ => False) s
  rw [e, e', keyLt'_oneType]
  exact oneLt_str ⟨rfl, rfl⟩
theorem strs_sortable {a : Addr} {vs : List Value} {ns : List Str} (hI : StrsAre vs ns) (h2 : 2 ≤ vs.length) : SortableO prog w A s a vs ltSv := by
  intro h' _
  refine ⟨oneType', fun Q E hq => ?_, str_cmp hI⟩
  match vs, hI, h2 with
  | v1 :: v2 :: rest, hI, _ =>
    rw [keyKind_strs hI]
    exact wpAny_pure hq
  | [], _, h => exact absurd h (by decide)
  | [v], _, h => exact absurd h (by simp)
theorem strs_out {vs out : List Value} {ns : List Str} (hI : StrsAre vs ns) (hs : Srtd ltSv out) (hp : out.Perm vs) : StrsAre out (sortS ns) := by
  have h1 : StrsAre out (out.map sv) := strs_sv fun v hv => strs_mem hI v (hp.mem_iff.mp hv)
  have h2 : (out.map sv).Perm ns := by
    have q := hp.map sv
    rw [sv_strs hI] at q
    exact q
  have h3 : (out.map sv).Pairwise (fun a b => leS a b = true) := List.pairwise_map.mpr (hs.imp fun {x y} h => by
    have h' : sLt (sv y) (sv x) = false := h
    unfold leS
    rw [h']
    rfl)
  have e : out.map sv = sortS ns := pw_only (h2.trans (sortS_perm ns).symm) h3 (sortS_pw ns)
  rwa [e] at h1
end
/-- sorted(list of texts) -/
def rSrtSA (K : Frag) : List V → Hp → VK → Prop := fun vs H Q => ∃ (a : Addr) (xs : List Str), vs = [V.ref a] ∧ SqL K H a (xs.map V.str) ∧
  ∀ p : Addr, H p = none → Q (.ref p) (upd H p (.lst ((sortS xs).map V.str)))
theorem cr_srtSA {X : Cx} : CallR X (.builtin "sorted") (rSrtSA X.K) := by
  intro pins s σ H vs us Q I r h
  obtain ⟨a, xs, rfl, hs, q⟩ := h
  obtain ⟨its, rv, hl, hz⟩ := I.list hs
  rw [Vals.ref1 r]
  have hlen0 := rv.length
  rw [List.length_map] at hlen0 hz
  refine sorted_strsAny hl.isList rv.strs (by rw [← hlen0]; exact hz) fun out ys h1 h2 h3 => ?_
  have e := sorted_only h2 h3
  subst e
  obtain ⟨ep, he'⟩ := sortedAll_at s.heap its out
  have hlen : ((sortS xs).map V.str).length ≤ sizeLine := by
    rw [List.length_map, h2.length_eq]
    exact hz
  exact ⟨.ref _, upd H (s.heap.objs.size + 1) (.lst ((sortS xs).map V.str)), I.laid (t' := s.toks) (fun _ _ => sortedAll_old) (Nat.le_succ _) ⟨hlen, out.toList, ep, vals_of_strs h1, he'⟩, rfl, q _ (I.hok.fresh (Nat.le_succ _))⟩
/-- sorted(dict of texts) -/
def rSrtDA : List V → Hp → VK → Prop := fun xs H Q => ∃ (a : Addr) (kvs : List (Key × V)) (ks : List Str), xs = [.ref a] ∧ Rd H a (.dK kvs) ∧ kvs.map (·.1) = ks.map Sum.inr ∧
    ∀ p, H p = none → Q (.ref p) (upd H p (.lst ((sortS ks).map V.str)))
theorem dict_keys {X : Cx} {ks : List Str} {vs : List (Key × Value)} {acc : Array Value} (hkeys : vs.map (·.1) = ks.map Sum.inr) (hl : vs.length = ks.length) (hacc1 : acc.size = vs.length)
    (hacc2 : ∀ (j : Nat) (v : Value), acc[j]? = some v → ∃ (k : Key) (x : Value), vs[j]? = some (k, x) ∧ (mixKind X.prog X.w).is k v = true) : StrsAre acc.toList ks := by
  have hal : acc.toList.length = ks.length := by rw [Array.length_toList, hacc1, hl]
  exact strs_at hal fun j v e => by
    obtain ⟨k, x, e1, e2⟩ := hacc2 j v (by rw [← Array.getElem?_toList]; exact e)
    have e3 : (vs.map (·.1))[j]? = some k := by rw [List.getElem?_map, e1]; all_goals rfl
    rw [hkeys, List.getElem?_map] at e3
    cases e4 : ks[j]? with
    | none => rw [e4] at e3; cases e3
    | some y =>
      rw [e4] at e3
      have e5 : Sum.inr y = k := Option.some.inj e3
      subst e5
      obtain ⟨t, ev⟩ := Value.isStrOf_shape (x := y) (v := v) e2
      exact ⟨y, t, rfl, ev⟩
theorem cr_srtDA {X : Cx} (hcalm : X.calm = true) : CallR X (.builtin "sorted") rSrtDA := by
  intro pins s σ H xs us Q I r q
  obtain ⟨a, kvs, ks, ex, hd, hks, q⟩ := q
  subst ex
  obtain ⟨u, eu, rx⟩ := vals1 r
  subst eu
  cases rx
  obtain ⟨z, lo, vs, rel, dd⟩ := dk_rd I.hok hd
  obtain ⟨ep, hat⟩ := dd.dictAt
  have hkeys : vs.map (·.1) = ks.map Sum.inr := rel.keys.symm.trans hks
  have hl : vs.length = ks.length := by
    have e := congrArg List.length hkeys
    rw [List.length_map, List.length_map] at e
    exact e
  have h16 : vs.length ≤ sizeLine := by rw [← rel.length]; exact z
  refine Calls.call_function_entry PyProof.Rows.kind_sorted PyProof.Rows.plain_sorted PyProof.Rows.entry_sorted (PyProof.Rows.args_sorted1 _) ?_
  unfold Builtin.«sorted»
  refine wpAny_bind (m := checkCount "sorted" 1 1 _) (wpAny_pure ?_)
  refine wpAny_bind (PySem.W.kdu_collect (A := X.A.in1) (PySem.W.kdl_dict (knd := mixKind X.prog X.w) (kvs := vs) (ep := ep) lo) (I.ok.hd hcalm) hat h16 fun h' tk acc hk hacc => ?_)
  have hS : StrsAre acc.toList ks := dict_keys (X := X) hkeys hl hacc.1 hacc.2
  have hal : acc.toList.length = ks.length := by rw [Array.length_toList, hacc.1, hl]
  have I1 : Inv X pins σ H { s with heap := h', toks := tk } := I.kept hk
  have hz2 : acc.toList.length ≤ sizeLine := by
    rw [hal, ← hl]
    exact h16
  refine wpAny_bind (wpAny_newList ?_ hz2)
  have hoL : (h'.push (seqObj "list" acc.toList.toArray 0)).get? h'.objs.size = some (seqObj "list" acc.toList.toArray 0) := Heap.get?_push_size _ rfl
  show wpAny _ _ _ _ _ { s with heap := h'.push (seqObj "list" acc.toList.toArray 0), toks := tk }
  refine wpAny_bind (wpAny_holding (wpAny_call_entry PyProof.Rows.slot_list_sort ⟨_, hoL, rfl⟩ PyProof.Rows.entry_list_sort
    (list_sort_ord (s := { s with heap := h'.push (seqObj "list" acc.toList.toArray 0), toks := tk }) swo_str hoL hz2 (fun h2 => strs_sortable hS h2) fun out hs hb => ⟨_, rfl, ?_⟩)
    (PyProof.Rows.args_list_sort _)))
  have g1 := strs_out hS hs hb.perm
  obtain ⟨e', he'⟩ := PyProof.Rows.sortedHeap_at (vs := acc.toList) (out := out.toArray) hoL
  have hlen : ((sortS ks).map V.str).length ≤ sizeLine := by
    rw [List.length_map, (sortS_perm ks).length_eq, ← hl]
    exact h16
  refine wpAny_pure ⟨_, rfl, .ref h'.objs.size, upd H h'.objs.size (.lst ((sortS ks).map V.str)), I1.laid (t' := tk) (fun b u e => ?_) (Nat.le_refl _)
    (show ObjOk X.prog X.w _ _ _ (.lst ((sortS ks).map V.str)) from ⟨hlen, out, e', vals_of_strs g1, he'⟩), rfl, q _ (I1.hok.fresh (Nat.le_refl _))⟩
  have hb : b < h'.objs.size := Heap.lt_size e
  rw [PyProof.Rows.sortedHeap_old (Nat.ne_of_lt hb) (by rw [size_push']; exact Nat.lt_succ_of_lt hb)]
  exact Heap.get?_push_of_some _ e
/-- sorted(dict of texts, reverse=True) -/
def rSrtDR : List V → List V → Hp → VK → Prop := fun xs zs H Q => ∃ (a : Addr) (kvs : List (Key × V)) (ks : List Str), xs = [.ref a] ∧ zs = [.bl true] ∧ Rd H a (.dK kvs) ∧ kvs.map (·.1) = ks.map Sum.inr ∧
    ∀ p, H p = none → Q (.ref p) (upd H p (.lst ((sortS ks).reverse.map V.str)))
theorem strs_rev : ∀ {vs : List Value} {ss : List Str}, StrsAre vs ss → StrsAre vs.reverse ss.reverse := fun {vs ss} h => by
  have h1 : StrsAre vs.reverse (vs.reverse.map sv) := strs_sv fun v hv => strs_mem h v (List.mem_reverse.mp hv)
  rwa [List.map_reverse, sv_strs h] at h1
theorem cr_srtDR {X : Cx} (hcalm : X.calm = true) : CallRK X (.builtin "sorted") [Str.ofString "reverse"] rSrtDR := by
  intro pins s σ H xs zs us ws Q I r rz q
  obtain ⟨a, kvs, ks, ex, ez, hd, hks, q⟩ := q
  subst ex
  subst ez
  obtain ⟨u, eu, rx⟩ := vals1 r
  subst eu
  cases rx
  obtain ⟨w1, rfl, e1⟩ := vals1 rz
  obtain rfl : w1 = Value.bool true := e1
  obtain ⟨z, lo, vs, rel, dd⟩ := dk_rd I.hok hd
  obtain ⟨ep, hat⟩ := dd.dictAt
  have hkeys : vs.map (·.1) = ks.map Sum.inr := rel.keys.symm.trans hks
  have hl : vs.length = ks.length := by
    have e := congrArg List.length hkeys
    rw [List.length_map, List.length_map] at e
    exact e
  have h16 : vs.length ≤ sizeLine := by rw [← rel.length]; exact z
  refine call_function_entry_kw PyProof.Rows.kind_sorted PyProof.Rows.plain_sorted PyProof.Rows.entry_sorted (PyProof.Rows.args_sorted_rev _ _) ?_
  unfold Builtin.«sorted»
  refine wpAny_bind (m := checkCount "sorted" 1 1 _) (wpAny_pure ?_)
  refine wpAny_bind (PySem.W.kdu_collect (A := X.A.in1) (PySem.W.kdl_dict (knd := mixKind X.prog X.w) (kvs := vs) (ep := ep) lo) (I.ok.hd hcalm) hat h16 fun h' tk acc hk hacc => ?_)
  have hS : StrsAre acc.toList ks := dict_keys (X := X) hkeys hl hacc.1 hacc.2
  have hal : acc.toList.length = ks.length := by rw [Array.length_toList, hacc.1, hl]
  have I1 : Inv X pins σ H { s with heap := h', toks := tk } := I.kept hk
  have hz2 : acc.toList.length ≤ sizeLine := by
    rw [hal, ← hl]
    exact h16
  refine wpAny_bind (wpAny_newList ?_ hz2)
  have hoL : (h'.push (seqObj "list" acc.toList.toArray 0)).get? h'.objs.size = some (seqObj "list" acc.toList.toArray 0) := Heap.get?_push_size _ rfl
  show wpAny _ _ _ _ _ { s with heap := h'.push (seqObj "list" acc.toList.toArray 0), toks := tk }
  refine wpAny_bind (wpAny_holding (wpAny_call_entry_kw PyProof.Rows.slot_list_sort ⟨_, hoL, rfl⟩ PyProof.Rows.entry_list_sort
    (SrtR.list_sort_ordR (b := true) (s := { s with heap := h'.push (seqObj "list" acc.toList.toArray 0), toks := tk }) swo_str hoL hz2 (fun h2 => strs_sortable hS h2) fun out hs hb => ⟨_, rfl, ?_⟩)
    (PyProof.Rows.args_list_sort_rev _ _)))
  have g1 := strs_rev (strs_out hS hs (hb.perm.trans (List.reverse_perm _)))
  obtain ⟨e', he'⟩ := PyProof.Rows.sortedHeap_at (vs := acc.toList) (out := out.toArray.reverse) hoL
  have hlen : ((sortS ks).reverse.map V.str).length ≤ sizeLine := by
    rw [List.length_map, List.length_reverse, (sortS_perm ks).length_eq, ← hl]
    exact h16
  have e0 : out.reverse.toArray = out.toArray.reverse := by simp
  refine wpAny_pure ⟨_, rfl, .ref h'.objs.size, upd H h'.objs.size (.lst ((sortS ks).reverse.map V.str)), I1.laid (t' := tk) (fun b u e => ?_) (Nat.le_refl _)
    (show ObjOk X.prog X.w _ _ _ (.lst ((sortS ks).reverse.map V.str)) from ⟨hlen, out.reverse, e', vals_of_strs g1, by rw [e0]; exact he'⟩), rfl, q _ (I1.hok.fresh (Nat.le_refl _))⟩
  have hb : b < h'.objs.size := Heap.lt_size e
  rw [PyProof.Rows.sortedHeap_old (Nat.ne_of_lt hb) (by rw [size_push']; exact Nat.lt_succ_of_lt hb)]
  exact Heap.get?_push_of_some _ e
def sortI (ks : List Int) : List Int := ks.mergeSort fun a b => decide (a ≤ b)
theorem sortI_perm (ks : List Int) : (sortI ks).Perm ks := List.mergeSort_perm ks _
theorem sortI_pw (ks : List Int) : (sortI ks).Pairwise (· ≤ ·) := by
  have h := List.pairwise_mergeSort (le := fun a b : Int => decide (a ≤ b)) (fun a b c h1 h2 => decide_eq_true (Int.le_trans (of_decide_eq_true h1) (of_decide_eq_true h2))) (fun a b => by
    rcases Int.le_total a b with q | q
    · rw [decide_eq_true q, Bool.true_or]
    · rw [decide_eq_true q, Bool.or_true]) ks
  exact h.imp fun q => of_decide_eq_true q
theorem sortedI_only {ks ys : List Int} (hp : ys.Perm ks) (h : ys.Pairwise (· ≤ ·)) : ys = sortI ks :=
  List.Perm.eq_of_pairwise (le := (· ≤ ·)) (fun _ _ _ _ h1 h2 => Int.le_antisymm h1 h2) h (sortI_pw ks) (hp.trans (sortI_perm ks).symm)
end Q.So
namespace Q
open PySem PySem.Spec PyProof.Rows L2 Evl
open So (sMax sMin sortS sortI)
/-! built-in functions -/
abbrev FB := List W → Mu → Po → Prop
def rB (K : Frag) (f : FB) : List V → Hp → VK → Prop := fun vs H Q => ∃ ws μ P, RwAll K H μ vs ws ∧ Mem K H μ ∧ f ws μ P ∧ VL K Q μ H P
theorem callR_imp {X : Cx} {c : Value} {r r' : List V → Hp → VK → Prop} (h : CallR X c r) (k : ∀ vs H Q, r' vs H Q → r vs H Q) : CallR X c r' := fun pins s σ H xs us Q I rx q => h pins s σ H xs us Q I rx (k xs H Q q)
theorem callR_or {X : Cx} {c : Value} {r r' : List V → Hp → VK → Prop} (h : CallR X c r) (h' : CallR X c r') : CallR X c (fun vs H Q => r vs H Q ∨ r' vs H Q) := fun pins s σ H xs us Q I rx q => q.elim (h pins s σ H xs us Q I rx) (h' pins s σ H xs us Q I rx)
@[reducible] def eB (f : FB) (a : FA) : FE := fun ρ μ P X => a ρ μ (fun ws μ1 => f ws μ1 P) X
theorem tB_of {K : Frag} {E : L2.St → XK} {f : FB} {fa : FA} {r : List V → Hp → VK → Prop} (k : ∀ vs H Q, rB K f vs H Q → r vs H Q) {σ : L2.St} {H : Hp} {Q : VK} (h : tE K E (eB f fa) σ H Q) : tCB r (tA K E fa) σ H Q := by
  obtain ⟨ρ, μ, P, XX, hh, hm, hf, hv, hx⟩ := h
  exact ⟨ρ, μ, _, XX, hh, hm, hf, fun ws μ1 vs H1 p1 e1 m1 r1 => k vs H1 Q ⟨ws, μ1, P, r1, m1, p1, hv.stp e1⟩, hx⟩
section
variable {X : Cx} {E : L2.St → XK} {x : Str} {p pos : Pos} {e : Expr} {es : List Expr} {fa : FA} {id T : String} {f : FB}
theorem qe_b (hc : CallR X (.builtin id) (rB X.K f)) (hg : Gl X x) (hm : X.mg x = none) (hv : bootBuiltins x = some (.builtin id)) (ha : QA X E (e :: es) fa) (hn : x ≠ "__name__" := by decide) (hdb : (x == ("__debug__" : Str)) = false := by decide)
    (he : starEach (e :: es) X.env = (false, eval e X.env) :: starEach es X.env := by rfl) (hpl : (backTo pos (starEach es X.env)).any (·.1) = false := by rfl) : QE X E (.Call (.Name x p) (e :: es) [] pos) (eB f fa) :=
  ⟨(pe_callB hc hg hm hv ha.pa hn hdb he hpl).qimp fun σ H Q h => tB_of (fun _ _ _ h => h) h⟩
theorem qe_ty (hc : CallR X (.type T) (rB X.K f)) (hg : Gl X x) (hm : X.mg x = none) (hv : bootBuiltins x = some (.type T)) (ha : QA X E (e :: es) fa) (hn : x ≠ "__name__" := by decide) (hdb : (x == ("__debug__" : Str)) = false := by decide)
    (he : starEach (e :: es) X.env = (false, eval e X.env) :: starEach es X.env := by rfl) (hpl : (backTo pos (starEach es X.env)).any (·.1) = false := by rfl) : QE X E (.Call (.Name x p) (e :: es) [] pos) (eB f fa) :=
  ⟨(pe_callTy hc hg hm hv ha.pa hn hdb he hpl).qimp fun σ H Q h => tB_of (fun _ _ _ h => h) h⟩
end
section
variable {X : Cx}
/-! len -/
@[reducible] def bLen : FB := fun ws μ P => match ws with
  | [.str z] => z.length ≤ 16000000 ∧ P (.int (z.length : Int)) μ
  | [.tup us] => P (.int (us.length : Int)) μ
  | [w] => (match rdL μ w with
    | some us => P (.int (us.length : Int)) μ
    | none => (match w with
      | .ref a => (match μ a with
        | some (.dk kvs) => P (.int (kvs.length : Int)) μ
        | _ => False)
      | _ => False))
  | _ => False
theorem cb_len : CallR X (.builtin "len") (rB X.K bLen) := callR_imp (callR_or call_len call_lenD) fun vs H Q h => by
  obtain ⟨ws, μ, P, r, m, h, l⟩ := h
  unfold bLen at h
  split at h
  · obtain ⟨v, rfl, r1⟩ := r.one
    exact .inl ⟨v, _, rfl, by rw [rw_str r1]; exact ⟨big h.1, rfl⟩, l.now h.2 m (.int _)⟩
  · obtain ⟨v, rfl, r1⟩ := r.one
    cases r1 with
    | tup q hs => exact .inl ⟨_, _, rfl, .inr ⟨_, tup_sq q, hs.len.symm⟩, l.now h m (.int _)⟩
  · obtain ⟨v, rfl, r1⟩ := r.one
    split at h
    · rename_i us eu
      obtain ⟨a, vs, rfl, q, hs⟩ := rdL_at eu r1 m
      exact .inl ⟨_, _, rfl, .inl ⟨_, q, hs.len.symm⟩, l.now h m (.int _)⟩
    · split at h
      · split at h
        · rename_i kvs ea
          cases r1
          obtain ⟨kv, h1, h2⟩ := m _ _ ea
          exact .inr ⟨_, kv, rfl, h1, by rw [h2.len]; exact l.now h m (.int _)⟩
        · exact h.elim
      · exact h.elim
  · exact h.elim
/-! int, ord, abs, str, max, min -/
@[reducible] def bInt : FB := fun ws μ P => match ws with
  | [.int i] => P (.int i) μ
  | [.bl b] => P (.int (if b then 1 else 0)) μ
  | _ => False
theorem cb_int : CallR X (.type "int") (rB X.K bInt) := callR_imp call_int1 fun vs H Q h => by
  obtain ⟨ws, μ, P, r, m, h, l⟩ := h
  unfold bInt at h
  split at h
  · obtain ⟨v, rfl, r1⟩ := r.one
    exact .inl ⟨_, by rw [rw_int r1], l.now h m (.int _)⟩
  · obtain ⟨v, rfl, r1⟩ := r.one
    exact .inr ⟨_, by rw [rw_bl r1], l.now h m (.int _)⟩
  · exact h.elim
@[reducible] def bOrd : FB := fun ws μ P => match ws with
  | [.str x] => x.length = 1 ∧ P (.int (x.cps.getD 0 0 : Nat)) μ
  | _ => False
theorem cb_ord : CallR X (.builtin "ord") (rB X.K bOrd) := callR_imp call_ord fun vs H Q h => by
  obtain ⟨ws, μ, P, r, m, h, l⟩ := h
  unfold bOrd at h
  split at h
  · obtain ⟨v, rfl, r1⟩ := r.one
    exact ⟨_, by rw [rw_str r1], h.1, l.now h.2 m (.int _)⟩
  · exact h.elim
theorem max_is (i j : Int) : (if j > i then j else i) = max i j := by
  split <;> omega
theorem min_is (i j : Int) : (if j < i then j else i) = min i j := by
  split <;> omega
@[reducible] def bMax : FB := fun ws μ P => match ws with
  | [.int i, .int j] => P (.int (max i j)) μ
  | [.str i, .str j] => P (.str (sMax i j)) μ
  | [w] => ∃ ns : List Int, rdL μ w = some (ns.map W.int) ∧ 0 < ns.length ∧ ∀ m, m ∈ ns → (∀ y, y ∈ ns → y ≤ m) → P (.int m) μ
  | _ => False
@[reducible] def bMin : FB := fun ws μ P => match ws with
  | [.int i, .int j] => P (.int (min i j)) μ
  | [.str i, .str j] => P (.str (sMin i j)) μ
  | [w] => ∃ ns : List Int, rdL μ w = some (ns.map W.int) ∧ 0 < ns.length ∧ ∀ m, m ∈ ns → (∀ y, y ∈ ns → m ≤ y) → P (.int m) μ
  | _ => False
theorem cb_max (hc : X.calm = true) : CallR X (.builtin "max") (rB X.K bMax) := callR_imp (callR_or (call_max2 hc) (callR_or (So.cr_maxS hc) (cr_max hc))) fun vs H Q h => by
  obtain ⟨ws, μ, P, r, m, h, l⟩ := h
  unfold bMax at h
  split at h
  · obtain ⟨v, w, rfl, r1, r2⟩ := r.two
    exact .inl ⟨_, _, by rw [rw_int r1, rw_int r2], by rw [max_is]; exact l.now h m (.int _)⟩
  · obtain ⟨v, w, rfl, r1, r2⟩ := r.two
    exact .inr (.inl ⟨_, _, by rw [rw_str r1, rw_str r2], l.now h m (.str _)⟩)
  · obtain ⟨v, rfl, r1⟩ := r.one
    obtain ⟨ns, en, h0, h⟩ := h
    obtain ⟨a, vs, rfl, q, hs⟩ := rdL_at en r1 m
    have ev := ints_of hs
    subst ev
    exact .inr (.inr ⟨a, ns, rfl, q, h0, fun k k1 k2 => l.now (h k k1 k2) m (.int _)⟩)
  · exact h.elim
theorem cb_min (hc : X.calm = true) : CallR X (.builtin "min") (rB X.K bMin) := callR_imp (callR_or (call_min2 hc) (callR_or (So.cr_minS hc) (cr_min hc))) fun vs H Q h => by
  obtain ⟨ws, μ, P, r, m, h, l⟩ := h
  unfold bMin at h
  split at h
  · obtain ⟨v, w, rfl, r1, r2⟩ := r.two
    exact .inl ⟨_, _, by rw [rw_int r1, rw_int r2], by rw [min_is]; exact l.now h m (.int _)⟩
  · obtain ⟨v, w, rfl, r1, r2⟩ := r.two
    exact .inr (.inl ⟨_, _, by rw [rw_str r1, rw_str r2], l.now h m (.str _)⟩)
  · obtain ⟨v, rfl, r1⟩ := r.one
    obtain ⟨ns, en, h0, h⟩ := h
    obtain ⟨a, vs, rfl, q, hs⟩ := rdL_at en r1 m
    have ev := ints_of hs
    subst ev
    exact .inr (.inr ⟨a, ns, rfl, q, h0, fun k k1 k2 => l.now (h k k1 k2) m (.int _)⟩)
  · exact h.elim
@[reducible] def bAll : FB := fun ws μ P => match ws with
  | [w] => ∃ bs : List Bool, rdL μ w = some (bs.map W.bl) ∧ P (.bl (bs.all id)) μ
  | _ => False
theorem cb_all (hc : X.calm = true) : CallR X (.builtin "all") (rB X.K bAll) := callR_imp (cr_all hc) fun vs H Q h => by
  obtain ⟨ws, μ, P, r, m, h, l⟩ := h
  unfold bAll at h
  split at h
  · obtain ⟨v, rfl, r1⟩ := r.one
    obtain ⟨ns, en, h⟩ := h
    obtain ⟨a, vs, rfl, q, hs⟩ := rdL_at en r1 m
    have ev := bls_of hs
    subst ev
    exact ⟨a, ns, rfl, q, l.now h m (.bl _)⟩
  · exact h.elim
/-! tuple, list, dict -/
@[reducible] def bTup : FB := fun ws μ P => match ws with
  | [.tup us] => P (.tup us) μ
  | [w] => (match rdL μ w with
    | some us => P (.tup us) μ
    | none => False)
  | _ => False
theorem cb_tup : CallR X (.type "tuple") (rB X.K bTup) := callR_imp call_tuple_of fun vs H Q h => by
  obtain ⟨ws, μ, P, r, m, h, l⟩ := h
  unfold bTup at h
  split at h
  · obtain ⟨v, rfl, r1⟩ := r.one
    cases r1 with
    | tup q hs => exact ⟨_, _, rfl, .inr ⟨tup_sq q, l.now h m (.tup q hs)⟩⟩
  · obtain ⟨v, rfl, r1⟩ := r.one
    split at h
    · rename_i us eu
      obtain ⟨a, vs, rfl, q, hs⟩ := rdL_at eu r1 m
      exact ⟨a, vs, rfl, .inl ⟨q, fun p hp => l.tup h m hs hp⟩⟩
    · exact h.elim
  · exact h.elim
@[reducible] def rdA (μ : Mu) (w : W) : Option (List W) := match w with
  | .tup us => some us
  | w => rdL μ w
theorem rdA_at {K : Frag} {H : Hp} {μ : Mu} {v : V} {w : W} {ws : List W} (h : rdA μ w = some ws) (r : Rw K H μ v w) (m : Mem K H μ) : ∃ a vs, v = .ref a ∧ (SqL K H a vs ∨ SqT K H a vs) ∧ RwAll K H μ vs ws := by
  unfold rdA at h
  split at h
  · cases h
    cases r with
    | tup q hs => exact ⟨_, _, rfl, .inr (tup_sq q), hs⟩
  · obtain ⟨a, vs, e, q, hs⟩ := rdL_at h r m
    exact ⟨a, vs, e, .inl q, hs⟩
/-- list(..): a value, tracked -/
@[reducible] def bLsV : FB := fun ws μ P => match ws with
  | [w] => (match rdA μ w with
    | some us => P (.lst us) μ
    | none => False)
  | _ => False
theorem cb_lsV : CallR X (.type "list") (rB X.K bLsV) := callR_imp call_list_of fun vs H Q h => by
  obtain ⟨ws, μ, P, r, m, h, l⟩ := h
  unfold bLsV at h
  split at h
  · obtain ⟨v, rfl, r1⟩ := r.one
    split at h
    · rename_i us eu
      obtain ⟨a, vs, rfl, q, hs⟩ := rdA_at eu r1 m
      exact ⟨a, vs, rfl, q, fun p hp => l.lst h m hs hp⟩
    · exact h.elim
  · exact h.elim
theorem VL.dk {K : Frag} {Q : VK} {μ : Mu} {H : Hp} {P : Po} (l : VL K Q μ H P) {kvs : List (Key × W)} {kv : List (Key × V)} (p : ∀ p, μ p = none → P (.ref p) (mset μ p (.dk kvs))) (m : Mem K H μ) (r : RwP K H μ kv kvs) {a : Addr} (ha : H a = none) : Q (.ref a) (upd H a (.dK kv)) := l _ _ _ _ (p a (m.free ha)) (Stp.newT ha) (m.put (Stp.newT ha) ⟨kv, upd_same, r.stp (Stp.newT ha)⟩) (.ref a)
/-! sorted, of texts, of a dict with text keys, with int keys -/
@[reducible] def bSrS : FB := fun ws μ P => match ws with
  | [w] => ∃ ks : List Str, rdL μ w = some (ks.map W.str) ∧ P (.lst ((sortS ks).map W.str)) μ
  | _ => False
theorem cb_srS : CallR X (.builtin "sorted") (rB X.K bSrS) := callR_imp So.cr_srtSA fun vs H Q h => by
  obtain ⟨ws, μ, P, r, m, h, l⟩ := h
  unfold bSrS at h
  split at h
  · obtain ⟨v, rfl, r1⟩ := r.one
    obtain ⟨ks, ek, h⟩ := h
    obtain ⟨a, vs, rfl, q, hs⟩ := rdL_at ek r1 m
    have ev := strs_of hs
    subst ev
    exact ⟨a, ks, rfl, q, fun p hp => l.lst h m (rw_strs _) hp⟩
  · exact h.elim
@[reducible] def bSdS : FB := fun ws μ P => match ws with
  | [.ref a] => (match μ a with
    | some (.dk kvs) => ∃ ks : List Str, kvs.map (·.1) = ks.map Sum.inr ∧ P (.lst ((sortS ks).map W.str)) μ
    | _ => False)
  | _ => False
theorem cb_sdS (hc : X.calm = true) : CallR X (.builtin "sorted") (rB X.K bSdS) := callR_imp (So.cr_srtDA hc) fun vs H Q h => by
  obtain ⟨ws, μ, P, r, m, h, l⟩ := h
  unfold bSdS at h
  split at h
  · obtain ⟨v, rfl, r1⟩ := r.one
    split at h
    · rename_i a _ kvs ea
      cases r1
      obtain ⟨kv, h1, h2⟩ := m _ _ ea
      obtain ⟨ks, ek, h⟩ := h
      exact ⟨a, kv, ks, rfl, .inl h1, by rw [h2.keys, ek], fun p hp => l.lst h m (rw_strs _) hp⟩
    · exact h.elim
  · exact h.elim
@[reducible] def bSdI : FB := fun ws μ P => match ws with
  | [.ref a] => (match μ a with
    | some (.dk kvs) => ∃ ks : List Int, kvs.map (·.1) = ks.map Sum.inl ∧ ks.length < 64 ∧ P (.lst ((sortI ks).map W.int)) μ
    | _ => False)
  | _ => False
theorem cb_sdI (hc : X.calm = true) : CallR X (.builtin "sorted") (rB X.K bSdI) := callR_imp (call_sortedDI hc) fun vs H Q h => by
  obtain ⟨ws, μ, P, r, m, h, l⟩ := h
  unfold bSdI at h
  split at h
  · obtain ⟨v, rfl, r1⟩ := r.one
    split at h
    · rename_i a _ kvs ea
      cases r1
      obtain ⟨kv, h1, h2⟩ := m _ _ ea
      obtain ⟨ks, ek, h64, h⟩ := h
      refine ⟨a, kv, ks, rfl, .inl h1, by rw [h2.keys, ek], h64, fun ys p hp hs hn => ?_⟩
      rw [So.sortedI_only hp hs]
      exact l.lst h m (rw_ints _) hn
    · exact h.elim
  · exact h.elim
end
/-! isinstance of a built-in type -/
inductive T7 where
  | non | bl | int | str | tup | lst | dct
deriving DecidableEq
def T7.nm : T7 → String
  | .non => "NoneType"
  | .bl => "bool"
  | .int => "int"
  | .str => "str"
  | .tup => "tuple"
  | .lst => "list"
  | .dct => "dict"
@[reducible] def T7.is : T7 → T7 → Bool
  | .bl, .int => true
  | .non, .non => true
  | .bl, .bl => true
  | .int, .int => true
  | .str, .str => true
  | .tup, .tup => true
  | .lst, .lst => true
  | .dct, .dct => true
  | _, _ => false
theorem T7.kit (a b : T7) : kitB a.nm b.nm = some (a.is b) := by
  cases a <;> cases b <;> decide +kernel
@[reducible] def tyW (μ : Mu) (w : W) : Option T7 := match w with
  | .non => some .non
  | .bl _ => some .bl
  | .int _ => some .int
  | .str _ => some .str
  | .tup _ => some .tup
  | .lst _ => some .lst
  | .rol _ => some .lst
  | .ref a => (match μ a with
    | some (.ls _) => some .lst
    | some (.dk _) => some .dct
    | some (.rk _) => some .dct
    | some (.dt _) => some .dct
    | _ => none)
  | _ => none
theorem tyx_at {K : Frag} {H : Hp} {μ : Mu} {v : V} {w : W} {t : T7} (h : tyW μ w = some t) (r : Rw K H μ v w) (m : Mem K H μ) : TyX K H v (.type t.nm) := by
  cases r with
  | non => cases h; exact .base .non
  | bl b => cases h; exact .base (.bl b)
  | int i => cases h; exact .base (.int i)
  | str x => cases h; exact .base (.str x)
  | tup q _ =>
    cases h
    rcases q with q | ⟨o, its, n, e, c, _⟩
    · exact .base (.tup q.1)
    · exact .kTuple e c
  | lst q _ =>
    cases h
    exact .base (.lst q.1)
  | rol q _ =>
    cases h
    rcases q.1 with q | ⟨o, q⟩
    · exact .base (.lst q)
    · exact .base (.frz q)
  | ref a =>
    unfold tyW at h
    dsimp only at h
    split at h
    · rename_i e
      cases h
      obtain ⟨vs, h1, _⟩ := m _ _ e
      exact .base (.lst h1)
    · rename_i e
      cases h
      obtain ⟨vs, h1, _⟩ := m _ _ e
      exact .base (.dK h1)
    · rename_i e
      cases h
      obtain ⟨o, vs, h1, _⟩ := m _ _ e
      exact .fDict h1
    · rename_i e
      cases h
      obtain ⟨vs, h1, _⟩ := m _ _ e
      exact .base (.dT h1)
    · cases h
  | _ => cases h
@[reducible] def eIsi (t : T7) (e : FE) : FE := fun ρ μ P X => e ρ μ (fun w μ1 => match tyW μ1 w with
  | some s => P (.bl (s.is t)) μ1
  | none => False) X
theorem qe_isi {X : Cx} {E : L2.St → XK} {x : Str} {p p2 pos : Pos} {e : Expr} {fe : FE} (t : T7) (hg : Gl X "isinstance") (hm : X.mg "isinstance" = none) (hg2 : Gl X x) (hm2 : X.mg x = none) (hv2 : bootBuiltins x = some (.type t.nm)) (he : QE X E e fe)
    (hst : starEach [e, .Name x p2] X.env = (false, eval e X.env) :: starEach [.Name x p2] X.env := by rfl) (hpl : (backTo pos (starEach [.Name x p2] X.env)).any (·.1) = false := by rfl)
    (hn2 : x ≠ "__name__" := by decide) (hd2 : (x == ("__debug__" : Str)) = false := by decide) : QE X E (.Call (.Name "isinstance" p) [e, .Name x p2] [] pos) (eIsi t fe) :=
  ⟨(pe_callB call_isi hg hm (by decide +kernel) (pa_cons he.pe (pa_cons (pe_bltn (v := V.ty t.nm) hg2 hm2 hv2 rfl hn2 hd2) pa_nil) hst) (by decide) (by decide) hst hpl).qimp fun σ H Q h => by
  obtain ⟨ρ, μ, P, XX, hh, hm, hf, hv, hx⟩ := h
  refine ⟨ρ, μ, _, XX, hh, hm, hf, fun w μ1 v H1 p1 e1 m1 r1 => ?_, hx⟩
  dsimp only at p1
  split at p1
  · rename_i s es
    exact ⟨v, .ty t.nm, _, _, s.is t, rfl, .ty t.nm, tyx_at es r1 m1, kit_ty (T7.kit s t), hv _ μ1 _ H1 p1 e1 m1 (.bl _)⟩
  · exact p1.elim⟩
end Q
namespace Q
open PySem PySem.Spec PyProof.Rows L2 Evl
/-! methods of built-in types -/
@[reducible] def tyL : Mu → W → Prop := fun μ w => (rdL μ w).isSome = true
@[reducible] def tyD : Mu → W → Prop := fun μ w => match w with
  | .ref a => (match μ a with
    | some (.dk _) => True
    | _ => False)
  | _ => False
/-! ### dicts -/
section
variable {X : Cx} {E : L2.St → XK} {o e f : Expr} {apos cpos pos pos' : Pos} {fo fa fb : FE}
theorem pop_st {K : Frag} {H : Hp} {μ : Mu} {p : Addr} {kvs : List (Key × W)} {kv : List (Key × V)} {q : Key} (m : Mem K H μ) (e : μ p = some (.dk kvs)) (h1 : H p = some (.dK kv)) (h2 : RwP K H μ kv kvs) : Stp μ H (mset μ p (.dk (dropW kvs q))) (upd H p (.dK (dropK kv q))) ∧ Mem K (upd H p (.dK (dropK kv q))) (mset μ p (.dk (dropW kvs q))) := by
  have st : Stp μ H (mset μ p (.dk (dropW kvs q))) (upd H p (.dK (dropK kv q))) := Stp.put e (nf_dk h1)
  exact ⟨st, m.put st ⟨_, upd_same, (rwp_drop h2).stp st⟩⟩
/-! a[i] = v, d[k] = v -/
@[reducible] def putIx (x y w : W) (μ : Mu) (k : Mu → Prop) : Prop := match x with
  | .ref a => (match μ a with
    | some (.ls ws) => (match y with
      | .int i => (match ixN ws.length i with
        | some j => k (mset μ a (.ls (ws.set j w)))
        | none => False)
      | _ => False)
    | some (.dk kvs) => (match kO y with
      | some q => kvs.length < 16000000 ∧ k (mset μ a (.dk (putW kvs q w)))
      | none => False)
    | _ => False)
  | _ => False
@[reducible] def sPut (o i e : FE) : FS := fun ρ μ N => e ρ μ (fun w μ1 => o ρ μ1 (fun x μ2 => i ρ μ2 (fun y μ3 => putIx x y w μ3 fun μ4 => N.nx ρ μ4) (N.ex ρ)) (N.ex ρ)) (N.ex ρ)
theorem put_at {K : Frag} {H : Hp} {μ : Mu} {vx vy vw : V} {x y w : W} {k : Mu → Prop} {Q : Hp → Prop} (h : putIx x y w μ k) (rx : Rw K H μ vx x) (ry : Rw K H μ vy y) (rw' : Rw K H μ vw w) (m : Mem K H μ) (q : ∀ μ' H', k μ' → Stp μ H μ' H' → Mem K H' μ' → Q H') : rSetL vx vy vw H Q ∨ rSetD vx vy vw H Q := by
  unfold putIx at h
  split at h
  · split at h
    · rename_i us ea
      cases rx
      obtain ⟨xs, h1, h2⟩ := m _ _ ea
      split at h
      · split at h
        · rename_i i _ j ej
          have ey := rw_int ry
          subst ey
          have st : Stp μ H (mset μ _ (.ls (us.set j w))) (upd H _ (.lst (xs.set j vw))) := Stp.put ea (nf_lst h1)
          exact .inl ⟨_, xs, i, j, rfl, rfl, h1, by rw [h2.len]; exact ej, q _ _ h st (m.put st ⟨_, upd_same, (RwAll.set rw' j h2).stp st⟩)⟩
        · exact h.elim
      · exact h.elim
    · rename_i kvs ea
      cases rx
      obtain ⟨kv, h1, h2⟩ := m _ _ ea
      split at h
      · rename_i q1 eq1
        have ey := kO_rw ry eq1
        subst ey
        have st : Stp μ H (mset μ _ (.dk (putW kvs q1 w))) (upd H _ (.dK (putK kv q1 vw))) := Stp.put ea (nf_dk h1)
        exact .inr ⟨_, _, rfl, .inl ⟨kv, q1, h1, rfl, by rw [h2.len]; exact biglt h.1, rfl⟩, q _ _ h.2 st (m.put st ⟨_, upd_same, (rwp_put rw' h2).stp st⟩)⟩
      · exact h.elim
    · exact h.elim
  · exact h.elim
theorem pset_or {t t' : TSet} (h : PSet X t) (h' : PSet X t') : PSet X (fun o i v H Q => t o i v H Q ∨ t' o i v H Q) := fun pins s σ H o i v ov iv u Q I ro ri rv q => q.elim (h pins s σ H o i v ov iv u Q I ro ri rv) (h' pins s σ H o i v ov iv u Q I ro ri rv)
theorem qs_put {i value : Expr} {fi fe : FE} (hu : X.A.units + 1 < cLine) (ho : QE X E o fo) (hi : QE X E i fi) (he : QE X E value fe) (hs : swapsWithSole [.Subscript o i pos'] value pos.line X.env = pure false := by rfl) (hw : swappedStores [.Subscript o i pos'] value X.env = pure none := by rfl)
    (h1 : (assignEach [.Subscript o i pos'] X.env).map (·.2) = [assign (.Subscript o i pos') X.env] := by rfl)
    (ha : ∀ v, assign (.Subscript o i pos') X.env v = (do
      let ov ← holding [v] (eval o X.env)
      let iv ← holding [v, ov] (eval i X.env)
      standAt pos'
      holding [v, ov, iv] (setItem ov iv v)
      release [v, ov, iv] []) := by intro _; rfl) : QS X E (.Assign [.Subscript o i pos'] value pos) (sPut fo fi fe) := ⟨(ps_asg he.pe (pg_sub ho.pe hi.pe (pset_or set_list (set_dict hu)) ha) hs hw h1).qimp fun D σ H h => by
  obtain ⟨ρ, μ, N, hh, hm, hf, l⟩ := h
  refine ⟨ρ, μ, _, _, hh, hm, hf, fun w μ1 v H1 p1 e1 m1 r1 => ⟨ρ, μ1, _, _, hh.stp e1, m1, p1, fun x μ2 u H2 p2 e2 m2 r2 => ⟨ρ, μ2, _, _, hh.stp (e1.trans e2), m2, p2, fun y μ3 z H3 p3 e3 m3 r3 => ?_, (l.stp (e1.trans e2)).xl (hh.stp (e1.trans e2))⟩, (l.stp e1).xl (hh.stp e1)⟩, l.xl hh⟩
  have e13 := (e1.trans e2).trans e3
  exact put_at p3 (r2.stp e3) r3 (r1.stp (e2.trans e3)) m3 fun μ' H' k e m => l.nx ρ μ' σ H' k (e13.trans e) m (hh.stp (e13.trans e))⟩
/-! del a[i], del d[k] -/
@[reducible] def delIx (x y : W) (μ : Mu) (k : Mu → Prop) : Prop := match x with
  | .ref a => (match μ a with
    | some (.ls ws) => (match y with
      | .int i => (match ixN ws.length i with
        | some j => (-(2 ^ 63) ≤ i ∧ i < 2 ^ 63) ∧ k (mset μ a (.ls (ws.eraseIdx j)))
        | none => False)
      | _ => False)
    | some (.dk kvs) => (match kO y with
      | some q => (valW kvs q).isSome = true ∧ k (mset μ a (.dk (dropW kvs q)))
      | none => False)
    | _ => False)
  | _ => False
@[reducible] def sDel (o i : FE) : FS := fun ρ μ N => o ρ μ (fun x μ1 => i ρ μ1 (fun y μ2 => delIx x y μ2 fun μ3 => N.nx ρ μ3) (N.ex ρ)) (N.ex ρ)
theorem qs_del {i : Expr} {fi : FE} {tpos : Pos} (ho : QE X E o fo) (hi : QE X E i fi) : QS X E (.Delete [.Subscript o i tpos] pos) (sDel fo fi) := by
  refine ⟨⟨fun pins s σ H D I h => ?_⟩⟩
  obtain ⟨ρ, μ, N, hh, hm, hf, l⟩ := h
  refine wpAny_Delete (wpAny_deleteEach_cons (wpAny_delete_Subscript (thn (ho.go I hh hm hf (l.xl hh)) fun u s1 ⟨x, H1, wx, μ1, I1, rx, p1, e1, m1, r1⟩ => thn (hi.go I1 (hh.stp e1) m1 p1 ((l.stp e1).xl (hh.stp e1))) fun iv s2 ⟨y, H2, wy, μ2, I2, ry, p2, e2, m2, r2⟩ => ?_)))
  have e12 := e1.trans e2
  have r1' := r1.stp e2
  unfold delIx at p2
  split at p2
  · split at p2
    · rename_i us ea
      cases r1'
      obtain ⟨xs, h1, h2⟩ := m2 _ _ ea
      cases (show u = Value.ref _ from rx)
      split at p2
      · split at p2
        · rename_i k _ j ej
          have ey := rw_int r2
          subst ey
          obtain ⟨t, rfl⟩ := (show ∃ t, iv = Value.int k t from ry)
          have st : Stp μ2 H2 (mset μ2 _ (.ls (us.eraseIdx j))) (upd H2 _ (.lst (xs.eraseIdx j))) := Stp.put ea (nf_lst h1)
          exact del_list I2 h1 p2.1.1 p2.1.2 (by rw [h2.len]; exact (ixN_seq ej).1) fun s3 I3 => wpAny_deleteEach_nil ⟨σ, _, I3, l.nx ρ _ σ _ p2.2 (e12.trans st) (m2.put st ⟨_, upd_same, (h2.erase j).stp st⟩) (hh.stp (e12.trans st))⟩
        · exact p2.elim
      · exact p2.elim
    · rename_i kvs ea
      cases r1'
      obtain ⟨kv, h1, h2⟩ := m2 _ _ ea
      cases (show u = Value.ref _ from rx)
      split at p2
      · rename_i q eq1
        have ey := kO_rw r2 eq1
        subst ey
        obtain ⟨w, ew⟩ := Option.isSome_iff_exists.mp p2.1
        obtain ⟨v, e3, _⟩ := (rwp_val h2).2 w ew
        obtain ⟨st, m3⟩ := pop_st (q := q) m2 ea h1 h2
        exact d_delItem I2 h1 ry (by rw [e3]; rfl) fun s3 I3 => wpAny_deleteEach_nil ⟨σ, _, I3, l.nx ρ _ σ _ p2.2 (e12.trans st) m3 (hh.stp (e12.trans st))⟩
      · exact p2.elim
    · exact p2.elim
  · exact p2.elim
/-! displays -/
@[reducible] def eDk : FE := fun _ μ P _ => ∀ p, μ p = none → P (.ref p) (mset μ p (.dk []))
theorem qe_dk : QE X E (.Dict [] [] pos) eDk := ⟨(pe_dnewK (X := X)).qimp fun σ H Q h => by
  obtain ⟨ρ, μ, P, XX, hh, hm, hf, hv, hx⟩ := h
  exact fun p hp => hv _ _ _ _ (hf p (hm.free hp)) (Stp.newT hp) (new_dk hm hp) (.ref p)⟩
end
end Q
namespace Q
open PySem PySem.Spec PyProof.Rows L2 Evl
/-! exceptions -/
/-- an own exception class -/
structure ExcQ (K : Frag) (mg : Str → Option Value) (x : Str) : Prop where
  gC : mg x = some (.ref (He.ga K x))
  q : PySem.W.excIn K (He.ga K x) He.veBase "ValueError.__new__" = true
  kC : PySem.W.keepIn K (.ref (He.ga K x)) = true
  sub : PySem.W.subIn K (.ref (He.ga K x)) (.type "BaseException") = some true
  ty : PySem.W.typeIn K (.ref (He.ga K x)) = some (.type "type")
theorem exq_of {K : Frag} {mg : Str → Option Value} {x : Str} (g : mg x = some (.ref (He.ga K x))) (c : (He.Fa.exc x).ok K = true) : ExcQ K mg x := by
  obtain ⟨h1, h2⟩ := Bool.and_eq_true_iff.mp c
  obtain ⟨h3, h4⟩ := Bool.and_eq_true_iff.mp h2
  obtain ⟨h5, h6⟩ := Bool.and_eq_true_iff.mp h4
  exact ⟨g, h1, h3, of_decide_eq_true h5, of_decide_eq_true h6⟩
abbrev Tk (X : Cx) (E : L2.St → XK) : Prop := L2N.Takes X (fun c d σ H => E σ c d H)
theorem Tk.px {X : Cx} {E : L2.St → XK} (t : Tk X E) : Px X E := fun σ => L2N.passAt t σ
@[reducible] def sRaise (c : Str) : FS := fun ρ μ N => N.ex ρ c [] μ
theorem qs_raise {X : Cx} {E : L2.St → XK} {x m : Str} {j : Nat} {p p2 pos pos' : Pos} (e : ExcQ X.K X.mg x) (hc : X.calm = true) (tk : Tk X E) (hg : Gl X x) (hdb : (x == ("__debug__" : Str)) = false := by decide) :
    QS X E (.Raise (some (.Call (.Name x p) [.Constant (.str m) j p2] [] pos)) none pos') (sRaise x) := ⟨(L2N.ps_raise hc tk (L2N.pmk_own PySem.F.excBase_ValueError e.q e.gC e.kC (raises_own e.sub e.ty) hg hdb)).qimp fun D σ H h => by
  obtain ⟨ρ, μ, N, hh, hm, hf, l⟩ := h
  exact l.ex ρ x [] μ none σ H hf (Stp.refl μ H) hm hh .none⟩
/-! try -/
/-- what a handler's class catches of the classes al -/
def ExmQ (K : Frag) (al : List Str) (hv : Value) (cs : List Str) : Prop := ∀ c ∈ al, PySem.W.exmOne K (.ref (He.ga K c)) hv = some (decide (c ∈ cs))
@[reducible] def noEx (N : En) : En := { N with ex := fun _ _ _ _ => False }
@[reducible] def tryX : List (List Str × FS) → En → Rho → Xo
  | [], N, ρ, c, fs, μ => N.ex ρ c fs μ
  | (cs, s) :: r, N, ρ, c, fs, μ => if c ∈ cs then s ρ μ (noEx N) else tryX r N ρ c fs μ
@[reducible] def sTry (al : List Str) (b : FS) (hs : List (List Str × FS)) : FS := fun ρ μ N => b ρ μ { N with ex := fun ρ' c fs μ' => c ∈ al ∧ tryX hs N ρ' c fs μ' }
theorem EL.noEx {K : Frag} {E : L2.St → XK} {D : Ends} {μ : Mu} {H : Hp} {N : En} (l : EL K E D μ H N) : EL K EN D μ H (Q.noEx N) := ⟨l.nx, l.rt, l.bk, l.ct, fun _ _ _ _ _ _ _ z => z.elim⟩
structure QHd (X : Cx) (E : L2.St → XK) (al : List Str) (hds : List ExceptHandler) (hs : List (List Str × FS)) : Prop where
  ex : ∃ l, L2N.HdsOk X hds l ∧ ∀ (D : Ends) (c : Str) (fs : List (Str × W)) (ρ : Rho) (μ : Mu) (N : En) (d : Option Addr) (σ : L2.St) (H : Hp), c ∈ al → tryX hs N ρ c fs μ → Holds X.K H μ σ ρ → Mem X.K H μ → Pay X.K H μ d fs → EL X.K E D μ H N → wMany X.K (fun c d σ H => E σ c d H) D l (.ref (He.ga X.K c)) d σ H
section
variable {X : Cx} {E : L2.St → XK} {al cs : List Str}
theorem qhd_nil : QHd X E al [] [] := ⟨[], .nil, fun D c fs ρ μ N d σ H _ h hh hm hp l => l.ex ρ c fs μ d σ H h (Stp.refl μ H) hm hh hp⟩
theorem qhd_cons {x : Str} {hv : Value} {b₀ : Stmt} {suite : List Stmt} {np pos' : Pos} {hds : List ExceptHandler} {hs : List (List Str × FS)} {fs : FS} (hc : Names X x hv) (em : ExmQ X.K al hv cs)
    (hsu : ∀ (a : Addr) (oe : Obj) (d : Option Addr) (pn : List (Addr × Obj)), (∃ vs, oe.data = .fields vs) → QSs (X.suite a ((a, oe) :: pn)) EN (b₀ :: suite) fs) (hr : QHd X E al hds hs) :
    QHd X E al (.ExceptHandler (some (.Name x np)) none (b₀ :: suite) pos' :: hds) ((cs, fs) :: hs) := by
  obtain ⟨l, h1, h2⟩ := hr.ex
  refine ⟨(hv, fun _ _ _ => tS X.K EN fs) :: l, .cons hc (fun a oe cls d pn _ h => (hsu a oe d pn h).pss) h1, fun D c gs ρ μ N d σ H ha h hh hm hp el => ?_⟩
  refine ⟨decide (c ∈ cs), em c ha, fun hb a hn => ?_, fun hb => ?_⟩
  · have hb := of_decide_eq_true hb
    have h := (if_pos hb).mp h
    exact ⟨ρ, μ, _, hh, hm, h, el.noEx⟩
  · have hb := of_decide_eq_false hb
    have h := (if_neg hb).mp h
    exact h2 D c gs ρ μ N d σ H ha h hh hm hp el
theorem qs_try {body : List Stmt} {h₀ : ExceptHandler} {hds : List ExceptHandler} {hs : List (List Str × FS)} {fb : FS} {pos : Pos} (h1 : X.stack = X.env :: X.outer) (h2 : X.env.frame = some X.env.locals) (tk : Tk X E)
    (hb : ∀ (W : L2.WX) (pn : List (Addr × Obj)) (xe : Value → Shared → Prop), Tk (X.tr pn xe) (WE W) → PassesOwn (model X.prog X.w) X.A X.env xe → QSs (X.tr pn xe) (WE W) body fb)
    (hh : QHd X E al (h₀ :: hds) hs) : QS X E (.Try body (h₀ :: hds) [] [] pos) (sTry al fb hs) := by
  obtain ⟨l, g1, g2⟩ := hh.ex
  refine ⟨(L2N.ps_try_many (tb := fun W => tS X.K (WE W) fb) h1 h2 tk (fun W pn xe t po => (hb W pn xe t po).pss) g1).qimp fun D σ H h => ?_⟩
  obtain ⟨ρ, μ, N, hh, hm, hf, el⟩ := h
  exact ⟨ρ, μ, _, hh, hm, hf, el.nx, el.rt, el.bk, el.ct, fun ρ' c fs μ' d σ' H' hx e m h p => g2 D c fs ρ' μ' N d σ' H' hx.1 hx.2 h m p (el.stp e)⟩
end
/-! calls in a suite -/
end Q
namespace Q
open PySem PySem.Spec PyProof.Rows L2 Evl
/-- a statement with more than one way on: the reading stops here -/
def sJn (a b : FS) : FS := sSeq a b
theorem qss_jn {X : Cx} {E : L2.St → XK} {st : Stmt} {r : List Stmt} {f g : FS} (h : QS X E st f) (hr : QSs X E r g) : QSs X E (st :: r) (sJn f g) := show QSs X E (st :: r) (sSeq f g) from qss_cons h hr
/-! what the printed terms use -/
section
variable {X : Cx} {E : L2.St → XK}
theorem qv (i : Nat) {x : Str} {pos : Pos} (hN : X.N[i]? = some x := by rfl) (hv : Vis X.env.scope x := by first | exact Or.inl rfl | exact Or.inr (Or.inl rfl) | exact Or.inr (Or.inr rfl)) (hd : (x == ("__debug__" : Str)) = false := by decide)
    (hcd : (x == ("__classdict__" : Str)) = false := by decide) : QE X E (.Name x pos) (eV i) := qe_var hN hv hd hcd
theorem qt_chain {op op' : CmpOp} {o o' : F2} {a b c : Expr} {fa fb fc : FE} {pos : Pos} (ho : OpR X (compareOp op) (rW X.K o)) (ho' : OpR X (compareOp op') (rW X.K o')) (ha : QE X E a fa) (hb : QE X E b fb) (hc : QE X E c fc) (hm : lastMarks [op, op'] [b, c] = false := by with_unfolding_all rfl) : QT X E (.Compare a [op, op'] [b, c] pos) (cV (eChain o o' fa fb fc)) :=
  ⟨(L2.pt_chain ho ho' ha.pe hb.pe hc.pe hm).qimp fun σ H Q h => tE_chain (tT_of h)⟩
theorem qe_chn {op op' : CmpOp} {o o' : F2} {a b c : Expr} {fa fb fc : FE} {pos : Pos} (ho : OpR X (compareOp op) (rW X.K o)) (ho' : OpR X (compareOp op') (rW X.K o')) (ha : QE X E a fa) (hb : QE X E b fb) (hc : QE X E c fc) (hm : lastMarks [op, op'] [b, c] = false := by with_unfolding_all rfl) : QE X E (.Compare a [op, op'] [b, c] pos) (eChain o o' fa fb fc) :=
  qe_chain ho ho' ha hb hc (L2.pe_chain ho ho' ha.pe hb.pe hc.pe hm)
end
section
variable {P : Program} {w : World} {K : Frag} {mg : Str → Option Value} {base : Heap}
theorem fn_w {x qual : Str} {st : Stmt} {f : Addr} {fd : FuncData} {N ps : List Str} {k : Nat} {fb : FS} (F : FnM K x qual st f fd) (S : FnScope N ps (defScope st)) (hl : ps.length ≤ N.length)
    (body : ∀ (cdv : Value) (A : Around) (outer : List PySem.Env) (s : Shared) (H : Hp) (E : XK), Room k (A.deeper (PyProof.Rows.envOfC qual (defScope st) s.heap.objs.size f cdv)) → Tk (cxOf (L2N.CX P w) P w K mg base N qual (defScope st) f cdv A outer s H E) (fun _ => E) →
      PassesOwn (model P w) (cxOf (L2N.CX P w) P w K mg base N qual (defScope st) f cdv A outer s H E).A (cxOf (L2N.CX P w) P w K mg base N qual (defScope st) f cdv A outer s H E).env (cxOf (L2N.CX P w) P w K mg base N qual (defScope st) f cdv A outer s H E).xe →
      (∀ hd : Option Value, PassesOwnAt (model P w) ((cxOf (L2N.CX P w) P w K mg base N qual (defScope st) f cdv A outer s H E).A.mark hd) (cxOf (L2N.CX P w) P w K mg base N qual (defScope st) f cdv A outer s H E).A (cxOf (L2N.CX P w) P w K mg base N qual (defScope st) f cdv A outer s H E).env (cxOf (L2N.CX P w) P w K mg base N qual (defScope st) f cdv A outer s H E).xe) →
      QSs (cxOf (L2N.CX P w) P w K mg base N qual (defScope st) f cdv A outer s H E) (fun _ => E) (defBody st) fb) : FnOk P w K mg base (L2N.CX P w) (k + 1) f fd ps (spF K (fDef ps.length N.length fb)) :=
  fn_q F S hl fun cdv A outer s H E hr => body cdv A outer s H E hr (L2N.takes_of rfl rfl rfl rfl) PassesOwn.leaving fun _ => PassesOwnAt.leaving
theorem dq_mk {k : Nat} {x : Str} {st : Stmt} {f : Addr} {fd : FuncData} {ps : List Str} {fw : FW} (F : FnM K x x st f fd) (g : mg x = some (.ref f)) (b : Binds K fd ps []) (h : FnOk P w K mg base (L2N.CX P w) k f fd ps (spF K fw)) : DefQ P w K mg base k x ps fw := ⟨f, fd, h, g, F.kp, b⟩
end
/-- nothing that is looked at is a list -/
theorem noLst_no {K : Frag} {a : Addr} {o : Obj} (h : noLst K = true) (e : K.lookup a = some o) : o.cls ≠ .type "list" := fun q => by
  have h2 := List.all_eq_true.mp h _ (He.lookup_mem e)
  rw [show ((a, o) : Addr × Obj).2.cls = .type "list" from q] at h2
  simp at h2
/-- what a law is to do, at every script -/
def LawOk (f : FW) (n : Nat) : Prop := ∀ ns : List Int, ns.length ≤ n → ∀ (P : Po) (X : Xo), (∀ μ, P (.bl true) μ) → f [.rol (ns.map W.int)] (fun _ => none) P X
/-- the law's own def: nothing is let out -/
def spL (K : Frag) (f : FW) : Sp := fun vs H Q _ => ∃ ws μ P, RwAll K H μ vs ws ∧ Mem K H μ ∧ f ws μ P (fun _ _ _ => False) ∧ VL K Q μ H P
theorem tk_no {X : Cx} : Tk X EN := fun _ _ x => by
  obtain ⟨_, _, _, _, _, _, _, _, _, _, _, _, _, _, _, _, z⟩ := x
  exact z.elim
theorem fn_l {P : Program} {w : World} {K : Frag} {mg : Str → Option Value} {base : Heap} {x qual : Str} {st : Stmt} {f : Addr} {fd : FuncData} {N ps : List Str} {k : Nat} {fb : FS} (F : FnM K x qual st f fd) (S : FnScope N ps (defScope st)) (hl : ps.length ≤ N.length)
    (body : ∀ (cdv : Value) (A : Around) (outer : List PySem.Env) (s : Shared) (H : Hp) (E : XK), Room k (A.deeper (PyProof.Rows.envOfC qual (defScope st) s.heap.objs.size f cdv)) → Tk (cxOf CX0 P w K mg base N qual (defScope st) f cdv A outer s H E) EN →
      PassesOwn (model P w) (cxOf CX0 P w K mg base N qual (defScope st) f cdv A outer s H E).A (cxOf CX0 P w K mg base N qual (defScope st) f cdv A outer s H E).env (cxOf CX0 P w K mg base N qual (defScope st) f cdv A outer s H E).xe →
      (∀ hd : Option Value, PassesOwnAt (model P w) ((cxOf CX0 P w K mg base N qual (defScope st) f cdv A outer s H E).A.mark hd) (cxOf CX0 P w K mg base N qual (defScope st) f cdv A outer s H E).A (cxOf CX0 P w K mg base N qual (defScope st) f cdv A outer s H E).env (cxOf CX0 P w K mg base N qual (defScope st) f cdv A outer s H E).xe) →
      QSs (cxOf CX0 P w K mg base N qual (defScope st) f cdv A outer s H E) EN (defBody st) fb) : FnOk P w K mg base CX0 (k + 1) f fd ps (spL K (fDef ps.length N.length fb)) := by
  refine L2.FunD.ok F S (fun vs H Q E h => ?_) (fun cdv A outer s H vs Q E hr h => ?_)
  · obtain ⟨ws, μ, Pq, h1, _, h2, _⟩ := h
    rw [h1.len]
    exact h2.1
  · obtain ⟨ws, μ, Pq, h1, hm, h2, v⟩ := h
    have h0 := Holds.start (N := N) h1
    rw [← rho0_is _ _ (by rw [h2.1]; exact hl)] at h0
    refine ⟨_, (body cdv A outer s H E hr tk_no PassesOwn.leaving fun _ => PassesOwnAt.leaving).pss, _, μ, _, h0, hm, h2.2, ?_⟩
    have e := el_def (E := fun _ _ _ => False) v (fun _ _ _ _ _ x => x.elim : XL K (fun _ _ _ => False) μ H fun _ _ _ => False)
    exact ⟨e.nx, e.rt, e.bk, e.ct, e.ex⟩
theorem law_end {K : Frag} {H : Hp} {a : Addr} {ns : List Int} {n : Nat} {f : FW} (hn : noLst K = true) (hl : ns.length ≤ n) (h : SqL K H a (ns.map V.int)) (ok : LawOk f n) : spL K f [.ref a] H (fun v _ => v = .bl true) (fun _ _ _ => False) := by
  have r : Rd H a (.lst (ns.map V.int)) := by
    rcases h with h | ⟨o, its, n, e, c, _⟩
    · exact h
    · exact absurd c (noLst_no hn e)
  have m0 : Mem K H (fun _ => none) := fun b o q => by
    have q : (none : Option O) = some o := q
    cases q
  refine ⟨[.rol (ns.map W.int)], fun _ => none, fun w _ => w = .bl true, .cons (.rol ⟨r, rfl⟩ (rw_ints ns)) .nil, m0, ok ns hl _ _ (fun _ => rfl), fun w μ' v H' p _ _ d => ?_⟩
  have p : w = .bl true := p
  subst p
  exact rw_bl d
theorem fld1 {K : Frag} {c f : Str} (l : Cls K (He.ga K c)) (n : NoAttr K (He.ga K c) f) : ∀ x ∈ [c], Cls K (He.ga K x) ∧ NoAttr K (He.ga K x) f := fun x h => by
  rcases List.mem_cons.mp h with e | e
  · rw [e]
    exact ⟨l, n⟩
  · cases e
/-! tuples of texts that the module names -/
structure TupQ (K : Frag) (mg : Str → Option Value) (x : Str) (ws : List Str) : Prop where
  ex : ∃ a : Addr, mg x = some (.ref a) ∧ WrT K a (ws.map V.str)
theorem qe_gtup {X : Cx} {E : L2.St → XK} {x : Str} {ws : List W} {zs : List Str} {pos : Pos} (hg : Gl X x) (u : TupQ X.K X.mg x zs) (hw : ws = zs.map W.str := by rfl) (hdb : (x == ("__debug__" : Str)) = false := by decide) : QE X E (.Name x pos) (eC (.tup ws)) := by
  subst hw
  exact qe_of (v := .ref u.ex.choose) (pe_glob hg u.ex.choose_spec.1 rfl hdb) fun H μ => .tup (.inr u.ex.choose_spec.2) (rw_strs zs)
theorem eqStrs_ok : ∀ {vs : List Value} {ws : List Str}, eqStrs vs ws = true → Vals (ws.map V.str) vs
  | [], [], _ => .nil
  | v :: r, y :: s, h => by
    cases v with
    | str x t =>
      obtain ⟨h1, h2⟩ := Bool.and_eq_true_iff.mp (show (decide (x = y) && eqStrs r s) = true from h)
      have e : x = y := of_decide_eq_true h1
      exact .cons ⟨t, by rw [e]⟩ (eqStrs_ok h2)
    | _ => cases h
  | [], _ :: _, h => by cases h
  | v :: _, [], h => by cases v <;> cases h
theorem tup_of {K : Frag} {mg : Str → Option Value} {x : Str} {ws : List Str} (G : mg x = some (.ref (He.ga K x))) (h : tupB K (He.ga K x) ws = true) : TupQ K mg x ws := by
  refine ⟨He.ga K x, G, ?_⟩
  unfold tupB at h
  cases q : K.lookup (He.ga K x) with
  | none =>
    rw [q] at h
    cases h
  | some o =>
    obtain ⟨oc, od, dt, osl⟩ := o
    rw [q] at h
    cases oc with
    | type c =>
      cases dt with
      | seq its n =>
        obtain ⟨h1, h2⟩ := Bool.and_eq_true_iff.mp (show (decide (c = "tuple") && (decide (its.size ≤ 100) && eqStrs its.toList ws)) = true from h)
        obtain ⟨h3, h4⟩ := Bool.and_eq_true_iff.mp h2
        have e : c = "tuple" := of_decide_eq_true h1
        have e2 : its.size ≤ 100 := of_decide_eq_true h3
        subst e
        exact ⟨_, its, n, q, rfl, rfl, sz_of (by omega), eqStrs_ok h4⟩
      | _ => cases h
    | _ => cases h
end Q
namespace Q
open PySem L2
/-! steps of a def's reading -/
theorem q_t {c : Bool} {A B : Prop} (h : c = true) (a : A) : if c = true then A else B := by
  rw [if_pos h]
  exact a
theorem q_f {c : Bool} {A B : Prop} (h : c = false) (b : B) : if c = true then A else B := by
  rw [if_neg (by rw [h]; exact Bool.false_ne_true)]
  exact b
theorem q_if {c : Bool} {A B : Prop} (a : c = true → A) (b : c = false → B) : if c = true then A else B := by
  cases c with
  | true => exact iteT (a rfl)
  | false => exact iteF (b rfl)
theorem q_and {A B : Prop} (a : A) (b : B) : A ∧ B := ⟨a, b⟩
theorem q_go {a b : FS} {ρ : Rho} {μ : Mu} {N : En} (h : sSeq a b ρ μ N) : sJn a b ρ μ N := h
theorem q_jn {a b : FS} {ρ : Rho} {μ : Mu} {N : En} (M : Rho → Mu → Prop) (h : ∀ K : Rho → Mu → Prop, (∀ ρ' μ', M ρ' μ' → K ρ' μ') → a ρ μ { N with nx := K }) (k : ∀ ρ' μ', M ρ' μ' → b ρ' μ' N) : sJn a b ρ μ N := h _ k
theorem q_ifP {p : Prop} [Decidable p] {A B : Prop} (a : p → A) (b : ¬p → B) : if decide p = true then A else B := by
  by_cases h : p
  · rw [if_pos (decide_eq_true h)]
    exact a h
  · rw [if_neg (by rw [decide_eq_false h]; exact Bool.false_ne_true)]
    exact b h
theorem q_ifN {p : Prop} [Decidable p] {A B : Prop} (a : p → B) (b : ¬p → A) : if (!decide p) = true then A else B := by
  by_cases h : p
  · rw [if_neg (by rw [decide_eq_true h]; decide)]
    exact a h
  · rw [if_pos (by rw [decide_eq_false h]; rfl)]
    exact b h
/-! walks -/
/-- each turn goes on, the store as it was, or returns v -/
theorem itS_ret {std : Mu → Prop} {g : FG} {b : FS} {N : En} {μ : Mu} {v : W} (ok : W → Bool) (I : Rho → Prop) (hstd : std μ) : ∀ (ws : List W) {ρ : Rho}, I ρ →
    (∀ w ∈ ws, ∀ ρ, I ρ → ∀ K : Rho → Mu → Prop, (ok w = true → ∀ ρ', I ρ' → K ρ' μ) → (ok w = false → N.rt v μ) → g w ρ μ fun ρ1 μ1 => b ρ1 μ1 { nx := K, ct := K, bk := N.nx, rt := N.rt, ex := N.ex }) →
    (ws.all ok = true → ∀ ρ', I ρ' → N.nx ρ' μ) → (ws.all ok = false → N.rt v μ) → itS std g b ws ρ μ N
  | [], ρ, h0, hs, ht, hf => ⟨hstd, ht rfl ρ h0⟩
  | w :: ws, ρ, h0, hs, ht, hf => ⟨hstd, hs w List.mem_cons_self ρ h0 _ (fun e ρ' h' => itS_ret ok I hstd ws h' (fun u hu => hs u (List.mem_cons_of_mem _ hu)) (fun a => ht (by rw [List.all_cons, e, a]; rfl)) fun a => hf (by rw [List.all_cons, e, a]; rfl)) fun e => hf (by rw [List.all_cons, e]; rfl)⟩
/-! texts -/
theorem slt_one (a b : Nat) : sLt ⟨#[a]⟩ ⟨#[b]⟩ = decide (a < b) := by
  unfold sLt
  simp [List.cons_lt_cons_iff]
theorem pick_c0 {α : Type} (a : α) (l : List α) : pick (a :: l) 0 = some a := pick_nat (Int.le_refl 0) rfl
theorem pick_c1 {α : Type} (a b : α) (l : List α) : pick (a :: b :: l) 1 = some b := pick_nat (by decide) rfl
theorem pick_c2 {α : Type} (a b c : α) (l : List α) : pick (a :: b :: c :: l) 2 = some c := pick_nat (by decide) rfl
theorem pick_c3 {α : Type} (a b c d : α) (l : List α) : pick (a :: b :: c :: d :: l) 3 = some d := pick_nat (by decide) rfl
theorem pick_c4 {α : Type} (a b c d e : α) (l : List α) : pick (a :: b :: c :: d :: e :: l) 4 = some e := pick_nat (by decide) rfl
theorem pick_c5 {α : Type} (a b c d e f : α) (l : List α) : pick (a :: b :: c :: d :: e :: f :: l) 5 = some f := pick_nat (by decide) rfl
/-! comprehensions over things that stand for values -/
section
variable {α : Type} {std : Mu → Prop} {g : FG} {c : FT} {e : FE} {ρ : Rho} {μ : Mu} {P : Po}
abbrev LcOf (g : FG) (c : FT) (e : FE) (ρ : Rho) (w : W) (r : Option W) (μ' : Mu) : Prop := ∀ (N : Mu → Prop) (Y : W → Mu → Prop), (r = none → N μ') → (∀ y, r = some y → Y y μ') → g w ρ μ' fun ρ2 μ2 => c ρ2 μ2 (fun b μ3 => if b = true then e ρ2 μ3 Y noX else N μ3) noX
theorem lc_of {p : Addr} {k : List W → Mu → Prop} (enc : α → W) (f : α → Option W) (hp : μ p = none) (hstd : ∀ μ', Ext μ μ' → std μ') : ∀ (xs : List α) (acc : List W), acc.length + xs.length ≤ 16000000 →
    (∀ x ∈ xs, ∀ μ', Ext μ μ' → LcOf g c e ρ (enc x) (f x) μ') → k (acc ++ xs.filterMap f) (mset μ p (.ls (acc ++ xs.filterMap f))) → lcS std g c e p k ρ (xs.map enc) acc (mset μ p (.ls acc))
  | [], acc, _, _, hk => by
    rw [List.filterMap_nil, List.append_nil] at hk
    exact ⟨hstd _ (Ext.new hp), hk⟩
  | x :: xs, acc, hz, h, hk => by
    rw [List.length_cons] at hz
    refine ⟨hstd _ (Ext.new hp), h x List.mem_cons_self _ (Ext.new hp) (fun μ3 => μ3 p = some (.ls acc) ∧ lcS std g c e p k ρ (xs.map enc) acc μ3) (fun y μ4 => μ4 p = some (.ls acc) ∧ acc.length < 16000000 ∧ lcS std g c e p k ρ (xs.map enc) (acc ++ [y]) (mset μ4 p (.ls (acc ++ [y])))) (fun hf => ?_) fun y hf => ?_⟩
    · rw [List.filterMap_cons_none hf] at hk
      exact ⟨mset_same, lc_of enc f hp hstd xs acc (by omega) (fun x hx => h x (List.mem_cons_of_mem _ hx)) hk⟩
    · rw [List.filterMap_cons_some hf] at hk
      refine ⟨mset_same, by omega, ?_⟩
      rw [mset_mset]
      exact lc_of enc f hp hstd xs (acc ++ [y]) (by rw [List.length_append, List.length_singleton]; omega) (fun x hx => h x (List.mem_cons_of_mem _ hx)) (by rw [List.append_assoc, List.singleton_append]; exact hk)
theorem lcV_fm (enc : α → W) (f : α → Option W) (xs : List α) (hz : xs.length ≤ 16000000) (hstd : ∀ μ', Ext μ μ' → std μ') (h : ∀ x ∈ xs, ∀ μ', Ext μ μ' → LcOf g c e ρ (enc x) (f x) μ') (hk : P (.lst (xs.filterMap f)) μ) : lcVK std g c e ρ (xs.map enc) P μ := fun p hp =>
  lc_of enc f hp hstd xs [] (by simpa using hz) h ⟨μ, Sub.new hp, hp, hk⟩
theorem fm_filter (enc : α → W) (t : α → Bool) : ∀ xs : List α, xs.filterMap (fun x => if t x = true then some (enc x) else none) = (xs.filter t).map enc
  | [] => rfl
  | x :: xs => by
    rw [List.filterMap_cons, List.filter_cons, fm_filter enc t xs]
    cases t x <;> rfl
theorem fm_map (f : α → W) : ∀ xs : List α, xs.filterMap (fun x => some (f x)) = xs.map f
  | [] => rfl
  | x :: xs => by
    rw [List.filterMap_cons, List.map_cons, fm_map f xs]
/-- [f x for x in xs if t x] -/
theorem lcV_tm (enc f : α → W) (t : α → Bool) (xs : List α) (hz : xs.length ≤ 16000000) (hstd : ∀ μ', Ext μ μ' → std μ')
    (h : ∀ x ∈ xs, ∀ μ', Ext μ μ' → ∀ (N : Mu → Prop) (Y : W → Mu → Prop), (t x = false → N μ') → (t x = true → Y (f x) μ') → g (enc x) ρ μ' fun ρ2 μ2 => c ρ2 μ2 (fun b μ3 => if b = true then e ρ2 μ3 Y noX else N μ3) noX)
    (hk : P (.lst ((xs.filter t).map f)) μ) : lcVK std g c e ρ (xs.map enc) P μ :=
  lcV_fm enc (fun x => if t x = true then some (f x) else none) xs hz hstd (fun x hx μ' he N Y hn hy => h x hx μ' he N Y (fun q => hn (by rw [q]; rfl)) fun q => hy _ (by rw [q]; rfl)) (by rw [fm_filter]; exact hk)
/-- [f x for x in xs] -/
theorem lcV_m (enc f : α → W) (xs : List α) (hz : xs.length ≤ 16000000) (hstd : ∀ μ', Ext μ μ' → std μ')
    (h : ∀ x ∈ xs, ∀ μ', Ext μ μ' → ∀ (Y : W → Mu → Prop), Y (f x) μ' → g (enc x) ρ μ' fun ρ2 μ2 => e ρ2 μ2 Y noX) (hk : P (.lst (xs.map f)) μ) : lcVK std g cYes e ρ (xs.map enc) P μ :=
  lcV_fm enc (fun x => some (f x)) xs hz hstd (fun x hx μ' he N Y _ hy => by
    simp only [cYes, if_true]
    exact h x hx μ' he Y (hy _ rfl)) (by rw [fm_map]; exact hk)
end
/-- a loop over things that stand for values, with an invariant: what is done, what is left -/
theorem itS_of {α : Type} {std : Mu → Prop} {g : FG} {b : FS} {N : En} (enc : α → W) (I : List α → List α → Rho → Mu → Prop) : ∀ (xs done : List α) {ρ : Rho} {μ : Mu}, I done xs ρ μ →
    (∀ done x r ρ μ, I done (x :: r) ρ μ → std μ ∧ ∀ K : Rho → Mu → Prop, (∀ ρ' μ', I (done ++ [x]) r ρ' μ' → K ρ' μ') → g (enc x) ρ μ fun ρ1 μ1 => b ρ1 μ1 { nx := K, ct := K, bk := N.nx, rt := N.rt, ex := N.ex }) →
    (∀ done ρ μ, I done [] ρ μ → std μ ∧ N.nx ρ μ) → itS std g b (xs.map enc) ρ μ N
  | [], done, ρ, μ, h0, hs, hd => hd done ρ μ h0
  | x :: r, done, ρ, μ, h0, hs, hd => ⟨(hs done x r ρ μ h0).1, (hs done x r ρ μ h0).2 _ fun ρ' μ' h' => itS_of enc I r (done ++ [x]) h' hs hd⟩
theorem pick_map {α : Type} {enc : α → W} {xs : List α} {i : Int} {x : α} (h0 : 0 ≤ i) (h : xs[i.toNat]? = some x) : pick (xs.map enc) i = some (enc x) := pick_nat h0 (by rw [List.getElem?_map, h]; rfl)
theorem pick_mapN {α : Type} {enc : α → W} {xs : List α} {i : Nat} {x : α} (h : xs[i]? = some x) : pick (xs.map enc) (i : Int) = some (enc x) := pick_map (Int.natCast_nonneg i) (by simpa using h)
theorem new_ne {μ : Mu} {p q : Addr} {o : O} (h : mset μ p o q = none) : q ≠ p ∧ μ q = none := by
  have ne : q ≠ p := fun e => by
    rw [e, mset_same] at h
    cases h
  rw [mset_ne ne] at h
  exact ⟨ne, h⟩
theorem tyL_ref {μ : Mu} {p : Addr} {ws : List W} (h : μ p = some (.ls ws)) : tyL μ (.ref p) := by
  show (match μ p with
    | some (.ls ws) => some ws
    | _ => none).isSome = true
  rw [h]
  rfl
theorem tyD_ref {μ : Mu} {p : Addr} {kvs : List (Key × W)} (h : μ p = some (.dk kvs)) : tyD μ (.ref p) := by
  show (match μ p with
    | some (.dk _) => True
    | _ => False)
  rw [h]
  trivial
theorem rdD_ref {μ : Mu} {p : Addr} {kvs : List (Key × W)} (h : μ p = some (.dk kvs)) : (rdD μ (.ref p)).isSome = true := by
  show (match μ p with
    | some (.dk kvs) => some kvs
    | some (.rk kvs) => some kvs
    | _ => none).isSome = true
  rw [h]
  rfl
theorem cutL_map {α β : Type} (f : α → β) (xs : List α) (lo hi : Option Int) : cutL (xs.map f) lo hi = (cutL xs lo hi).map f := by
  unfold cutL
  rw [List.length_map, List.map_take, List.map_drop]
theorem cutL_len {α : Type} (xs : List α) (lo hi : Option Int) : (cutL xs lo hi).length ≤ xs.length := by
  unfold cutL
  rw [List.length_take, List.length_drop]
  omega
theorem pick_mlast {α : Type} {enc : α → W} (xs : List α) (x : α) : pick ((xs ++ [x]).map enc) (-1) = some (enc x) := by
  rw [List.map_append]
  exact pick_last _ _
theorem rdL_ref {μ : Mu} {p : Addr} {ws : List W} (h : μ p = some (.ls ws)) : rdL μ (.ref p) = some ws := by
  show (match μ p with
    | some (.ls ws) => some ws
    | _ => none) = some ws
  rw [h]
theorem rdM_ref {μ : Mu} {p : Addr} {ws : List W} (h : μ p = some (.ls ws)) : rdM μ (.ref p) = some ws := by
  show (match μ p with
    | some (.ls ws) => some ws
    | _ => none) = some ws
  rw [h]
theorem rdL_refD {μ : Mu} {p : Addr} {kvs : List (Key × W)} (h : μ p = some (.dk kvs)) : rdL μ (.ref p) = none := by
  show (match μ p with
    | some (.ls ws) => some ws
    | _ => none) = none
  rw [h]
theorem rdD_refD {μ : Mu} {p : Addr} {kvs : List (Key × W)} (h : μ p = some (.dk kvs)) : rdD μ (.ref p) = some kvs := by
  show (match μ p with
    | some (.dk kvs) => some kvs
    | some (.rk kvs) => some kvs
    | _ => none) = some kvs
  rw [h]
theorem rdL_refK {μ : Mu} {p : Addr} {kvs : List (Key × W)} (h : μ p = some (.rk kvs)) : rdL μ (.ref p) = none := by
  show (match μ p with
    | some (.ls ws) => some ws
    | _ => none) = none
  rw [h]
theorem rdD_refK {μ : Mu} {p : Addr} {kvs : List (Key × W)} (h : μ p = some (.rk kvs)) : rdD μ (.ref p) = some kvs := by
  show (match μ p with
    | some (.dk kvs) => some kvs
    | some (.rk kvs) => some kvs
    | _ => none) = some kvs
  rw [h]
theorem drf_ref {μ : Mu} {p : Addr} {ws : List W} (h : μ p = some (.ls ws)) : drf μ (.ref p) = .lst ws := by
  show (match μ p with
    | some (.ls ws) => W.lst ws
    | _ => .ref p) = _
  rw [h]
theorem tyW_refL {μ : Mu} {p : Addr} {ws : List W} (h : μ p = some (.ls ws)) : tyW μ (.ref p) = some .lst := by
  show (match μ p with
    | some (.ls _) => some T7.lst
    | some (.dk _) => some .dct
    | some (.rk _) => some .dct
    | some (.dt _) => some .dct
    | _ => none) = _
  rw [h]
theorem tyW_refD {μ : Mu} {p : Addr} {kvs : List (Key × W)} (h : μ p = some (.dk kvs)) : tyW μ (.ref p) = some .dct := by
  show (match μ p with
    | some (.ls _) => some T7.lst
    | some (.dk _) => some .dct
    | some (.rk _) => some .dct
    | some (.dt _) => some .dct
    | _ => none) = _
  rw [h]
theorem nums_at {lo : Int} {n i : Nat} {w : W} (h : (nums lo n)[i]? = some w) : i < n ∧ w = .int (lo + i) := by
  unfold nums at h
  rw [List.getElem?_map] at h
  obtain ⟨j, h1, h2⟩ := Option.map_eq_some_iff.mp h
  obtain ⟨h3, h4⟩ := List.getElem?_eq_some_iff.mp h1
  rw [List.getElem_range] at h4
  rw [List.length_range] at h3
  subst h4
  exact ⟨h3, h2.symm⟩
theorem nums_len (lo : Int) (n : Nat) : (nums lo n).length = n := by
  unfold nums
  rw [List.length_map, List.length_range]
/-- over a range, by the turn -/
theorem itS_nums {std : Mu → Prop} {g : FG} {b : FS} {N : En} {lo : Int} {n : Nat} (I : Nat → Rho → Mu → Prop) {ρ : Rho} {μ : Mu} (h0 : I 0 ρ μ) (hstd : ∀ μ, std μ)
    (hs : ∀ k, k < n → ∀ ρ μ, I k ρ μ → ∀ K : Rho → Mu → Prop, (∀ ρ' μ', I (k + 1) ρ' μ' → K ρ' μ') → g (.int (lo + k)) ρ μ fun ρ1 μ1 => b ρ1 μ1 { nx := K, ct := K, bk := N.nx, rt := N.rt, ex := N.ex })
    (hd : ∀ ρ μ, I n ρ μ → N.nx ρ μ) : itS std g b (nums lo n) ρ μ N :=
  itS_inv (nums lo n) I h0 (fun i w ρ μ hw h => ⟨hstd μ, fun K hK => by
    obtain ⟨h1, rfl⟩ := nums_at hw
    exact hs i h1 ρ μ h K hK⟩) fun ρ μ h => ⟨hstd μ, hd ρ μ (by rw [nums_len] at h; exact h)⟩
theorem q_len {ws : List W} {n : Nat} {B : Prop} (h : Nat.ble ws.length n = true) (b : B) : ws.length ≤ n ∧ B := ⟨Nat.le_of_ble_eq_true h, b⟩
theorem q_leq {ws : List W} {n : Nat} {B : Prop} (h : ws.length = n) (b : B) : ws.length = n ∧ B := ⟨h, b⟩
theorem q_le {a b : Nat} {B : Prop} (h : Nat.ble a b = true) (k : B) : a ≤ b ∧ B := ⟨Nat.le_of_ble_eq_true h, k⟩
theorem tyL_lst {μ : Mu} {ws : List W} : tyL μ (.lst ws) := rfl
theorem tyL_rol {μ : Mu} {ws : List W} : tyL μ (.rol ws) := rfl
theorem isDs_all {n : Nat} : ∀ {ws : List W}, (∀ w ∈ ws, isD n w = true) → isDs n ws = true
  | [], _ => by cases n <;> rfl
  | w :: ws, h => by
    have h1 := h w List.mem_cons_self
    have h2 := isDs_all fun x hx => h x (List.mem_cons_of_mem _ hx)
    cases n <;> (show (isD _ w && isDs _ ws) = true; rw [h1, h2]; rfl)
theorem neG_same {x y : W} {μ : Mu} {P : Po} (hd : isD 60 (drf μ x) = true) (e : drf μ y = drf μ x) (h : P (.bl false) μ) : wEqG true x y μ P := by
  refine ⟨hd, by rw [e]; exact hd, ?_⟩
  rw [e, if_pos rfl, eqW_refl 60 _ hd]
  exact h
theorem eqG_same {x y : W} {μ : Mu} {P : Po} (hd : isD 60 (drf μ x) = true) (e : drf μ y = drf μ x) (h : P (.bl true) μ) : wEqG false x y μ P := by
  refine ⟨hd, by rw [e]; exact hd, ?_⟩
  rw [e, if_neg Bool.false_ne_true, eqW_refl 60 _ hd]
  exact h
theorem q_nn {p : Prop} [Decidable p] (h : p) : (!decide p) = false := by rw [decide_eq_true h]; rfl
theorem q_nt {p : Prop} [Decidable p] (h : ¬p) : (!decide p) = true := by rw [decide_eq_false h]; rfl
end Q
namespace Q
open PySem PySem.Spec PyProof.Rows L2 Evl
/-! exceptions with two fields, set by the class's own __init__ -/
section
variable {X : Cx} {E : L2.St → XK} {k : Nat} {x f g : Str} {e1 e2 : Expr} {p pos pos' : Pos} {fa : FA}
/-! except C as n -/
theorem Pay.rw {K : Frag} {H : Hp} {μ : Mu} {d : Option Addr} {fs : List (Str × W)} {a : Addr} {c : Str} (p : Pay K H μ d fs) : Rw K H μ (.ref a) (.exc a d c fs) := by
  cases p with
  | none => exact .exc
  | some h n r => exact .excf h n r
theorem Holds.hv {K : Frag} {H : Hp} {μ : Mu} {σ : L2.St} {ρ : Rho} (i : Nat) (h : Holds K H μ σ ρ) : Holds K H μ (σ.set i none) (Q.hv ρ i) := by
  rw [hv_set]
  exact h.hide i
end
/-! steps over what is tracked -/
@[reducible] def mo {α : Type} (x : Option α) (A : α → Prop) : Prop := match x with
  | some y => A y
  | none => False
theorem q_ex {c : Str} {fs : List (Str × W)} {μ : Mu} {X : Xo} (h : X c fs μ) : ∃ μ'', Sub μ'' μ ∧ X c fs μ'' := ⟨μ, Sub.refl μ, h⟩
theorem lk_hit {β : Type} {f : Str} {x : β} {r : List (Str × β)} : lk f ((f, x) :: r) = some x := by
  unfold lk
  rw [if_pos rfl]
theorem lk_skip {β : Type} {f g : Str} {x : β} {o : Option β} {r : List (Str × β)} (h : f ≠ g) (e : lk f r = o) : lk f ((g, x) :: r) = o := by
  unfold lk
  rw [if_neg h]
  exact e
theorem lk_nil {β : Type} {f : Str} : lk f ([] : List (Str × β)) = none := rfl
theorem lk_skip1 {β : Type} {f g : Str} {x : β} {r : List (Str × β)} (h : f ≠ g) : lk f ((g, x) :: r) = lk f r := lk_skip h rfl
theorem q_lkn {f : Str} {fs : List (Str × W)} {B : Prop} (h : lk f fs = none) (b : B) : lk f fs = none ∧ B := ⟨h, b⟩
theorem q_memc {c : Str} {cs : List Str} {B : Prop} (b : B) : c ∈ c :: cs ∧ B := ⟨List.mem_cons_self, b⟩
mutual
theorem isD_mono : ∀ {n m : Nat} {w : W}, n ≤ m → isD n w = true → isD m w = true
  | _, m, .non, _, _ | _, m, .bl _, _, _ | _, m, .int _, _, _ | _, m, .str _, _, _ => by cases m <;> rfl
  | n + 1, m + 1, .tup ws, h, d => isDs_mono (ws := ws) (Nat.le_of_succ_le_succ h) d
  | n + 1, m + 1, .lst ws, h, d => isDs_mono (ws := ws) (Nat.le_of_succ_le_succ h) d
  | 0, _, .tup _, _, d | 0, _, .lst _, _, d => by cases d
  | n + 1, 0, .tup _, h, _ | n + 1, 0, .lst _, h, _ => absurd h (by omega)
  | n, _, .rol _, _, d | n, _, .ref _, _, d | n, _, .fn _, _, d | n, _, .exc _ _ _ _, _, d => by cases n <;> cases d
theorem isDs_mono : ∀ {n m : Nat} {ws : List W}, n ≤ m → isDs n ws = true → isDs m ws = true
  | n, m, [], _, _ => by cases m <;> rfl
  | n, m, w :: ws, h, d => by
    have d : (isD n w && isDs n ws) = true := by
      unfold isDs at d
      exact d
    obtain ⟨d1, d2⟩ := Bool.and_eq_true_iff.mp d
    unfold isDs
    rw [isD_mono h d1, isDs_mono h d2]
    rfl
end
theorem q_pow {i j : Int} {B : Prop} (h : (decide (0 ≤ j) && (decide (j ≤ 1000000) && decide (i.natAbs < 2 ^ 64))) = true) (b : B) : CPow i j ∧ B := by
  obtain ⟨h1, h⟩ := Bool.and_eq_true_iff.mp h
  obtain ⟨h2, h3⟩ := Bool.and_eq_true_iff.mp h
  exact ⟨⟨of_decide_eq_true h1, of_decide_eq_true h2, of_decide_eq_true h3⟩, b⟩
theorem isD_drf {n : Nat} {w : W} {μ : Mu} (h : isD n w = true) : drf μ w = w := by
  cases w <;> first | rfl | (cases n <;> cases h)
theorem wNe_same {n : Nat} {w : W} {μ : Mu} {P : Po} (hd : isD n w = true) (hn : n ≤ 60) (h : P (.bl false) μ) : wNe w w μ P := by
  have hd : isD 60 w = true := isD_mono hn hd
  have e := isD_drf (μ := μ) hd
  cases w <;> first
    | exact neG_same (by rw [e]; exact hd) rfl h
    | (show P (.bl (!decide _)) μ; rw [decide_eq_true rfl]; exact h)
theorem wEq_same {n : Nat} {w : W} {μ : Mu} {P : Po} (hd : isD n w = true) (hn : n ≤ 60) (h : P (.bl true) μ) : wEq w w μ P := by
  have hd : isD 60 w = true := isD_mono hn hd
  have e := isD_drf (μ := μ) hd
  cases w <;> first
    | exact eqG_same (by rw [e]; exact hd) rfl h
    | (show P (.bl (decide _)) μ; rw [decide_eq_true rfl]; exact h)
/-! == and != that are not opened at values that are not known -/
def wEqu : F2 := wEq
def wNeq : F2 := wNe
theorem opU_equ {X : Cx} (hu : X.A.units + 64 < cLine) : OpR X (compareOp .Eq) (rW X.K wEqu) := opU_eq hu
theorem opU_neq {X : Cx} (hu : X.A.units + 64 < cLine) : OpR X (compareOp .NotEq) (rW X.K wNeq) := opU_ne hu
section
variable {μ : Mu} {P : Po}
theorem q_eqI {i j : Int} (h : P (.bl (decide (i = j))) μ) : wEqu (.int i) (.int j) μ P := h
theorem q_eqS {i j : Str} (h : P (.bl (decide (i = j))) μ) : wEqu (.str i) (.str j) μ P := h
theorem q_eqB {i j : Bool} (h : P (.bl (decide (i = j))) μ) : wEqu (.bl i) (.bl j) μ P := h
theorem q_neI {i j : Int} (h : P (.bl (!decide (i = j))) μ) : wNeq (.int i) (.int j) μ P := h
theorem q_neS {i j : Str} (h : P (.bl (!decide (i = j))) μ) : wNeq (.str i) (.str j) μ P := h
theorem q_neB {i j : Bool} (h : P (.bl (!decide (i = j))) μ) : wNeq (.bl i) (.bl j) μ P := h
theorem wEqu_same {n : Nat} {w : W} (hd : isD n w = true) (hn : n ≤ 60) (h : P (.bl true) μ) : wEqu w w μ P := wEq_same hd hn h
theorem wNeq_same {n : Nat} {w : W} (hd : isD n w = true) (hn : n ≤ 60) (h : P (.bl false) μ) : wNeq w w μ P := wNe_same hd hn h
end
end Q
namespace Q
open PySem PySem.Spec PyProof.Rows L2 Evl
/-! tables of the module: dicts with text keys that nobody changes -/
theorem wrT_of {K : Frag} {a : Addr} {ws : List Str} (h : tupB K a ws = true) : WrT K a (ws.map V.str) := by
  unfold tupB at h
  cases q : K.lookup a with
  | none =>
    rw [q] at h
    cases h
  | some o =>
    obtain ⟨oc, od, dt, osl⟩ := o
    rw [q] at h
    cases oc with
    | type c =>
      cases dt with
      | seq its n =>
        obtain ⟨h1, h2⟩ := Bool.and_eq_true_iff.mp (show (decide (c = "tuple") && (decide (its.size ≤ 100) && eqStrs its.toList ws)) = true from h)
        obtain ⟨h3, h4⟩ := Bool.and_eq_true_iff.mp h2
        have e : c = "tuple" := of_decide_eq_true h1
        have e2 : its.size ≤ 100 := of_decide_eq_true h3
        subst e
        exact ⟨_, its, n, q, rfl, rfl, sz_of (by omega), eqStrs_ok h4⟩
      | _ => cases h
    | _ => cases dt <;> cases h
theorem strs_mapM : ∀ {ws : List W} {zs : List Str}, ws.mapM (fun w => match w with
    | W.str z => some z
    | _ => none) = some zs → ws = zs.map W.str
  | [], zs, h => by
    cases h
    rfl
  | w :: ws, zs, h => by
    rw [List.mapM_cons] at h
    cases w with
    | str z =>
      obtain ⟨us, h1, h2⟩ := Option.bind_eq_some_iff.mp (show (ws.mapM _ >>= fun us => pure (z :: us)) = some zs from h)
      cases h2
      rw [strs_mapM h1]
      rfl
    | _ => cases h
theorem tvB_ok {K : Frag} {w : W} {u : Value} (h : tvB K w u = true) : ∃ v, RelV v u ∧ ∀ H μ, Rw K H μ v w := by
  unfold tvB at h
  split at h
  · rename_i i j t
    exact ⟨.int i, ⟨t, by rw [of_decide_eq_true h]⟩, fun H μ => .int i⟩
  · rename_i z y t
    exact ⟨.str z, ⟨t, by rw [of_decide_eq_true h]⟩, fun H μ => .str z⟩
  · rename_i f t
    exact ⟨.ref t, rfl, fun H μ => by rw [of_decide_eq_true h]; exact .fn f⟩
  · rename_i ws t
    split at h
    · rename_i zs e
      refine ⟨.ref t, rfl, fun H μ => ?_⟩
      rw [strs_mapM e]
      exact .tup (.inr (wrT_of h)) (rw_strs zs)
    · cases h
  · cases h
structure TabQ (K : Frag) (w : World) (mg : Str → Option Value) (x : Str) (kvs : List (Str × W)) : Prop where
  g : mg x = some (.ref (He.ga K x))
  kd : ∃ es n, KDict K w (He.ga K x) es n
  out : ∀ z, z ∉ kvs.map (·.1) → PySem.W.nsIn K (He.ga K x) z = some none
  val : ∀ p ∈ kvs, ∃ u v, PySem.W.nsIn K (He.ga K x) p.1 = some (some u) ∧ RelV v u ∧ ∀ H μ, Rw K H μ v p.2
theorem ents_no {P : Params} {z : Str} : ∀ {l : List DictEntry} {ks : List Str}, l.map He.keyOf = He.keysIn P ks → z ∉ ks → l.find? (·.key.isStr z) = none ∧ l.any (·.refKey) = false
  | [], _, _, _ => ⟨rfl, rfl⟩
  | e :: r, [], h, _ => by cases h
  | e :: r, k :: ks, h, hz => by
    have h1 : He.keyOf e :: r.map He.keyOf = some (k, PyData.keyHash P k) :: He.keysIn P ks := h
    injection h1 with h2 h3
    obtain ⟨i1, i2⟩ := ents_no h3 fun q => hz (List.mem_cons_of_mem _ q)
    unfold He.keyOf at h2
    split at h2
    · rename_i x t q
      have h4 := Option.some.inj h2
      obtain ⟨h5, h6⟩ := Prod.mk.inj h4
      subst h5
      have hne : ¬ x = z := fun q => hz (q ▸ List.mem_cons_self)
      refine ⟨?_, ?_⟩
      · rw [List.find?_cons, q]
        have this : Value.isStr (.str x t) z = false := by
          show (x == z) = false; exact beq_false_of_ne hne
        simp [this, i1]
      · rw [List.any_cons, i2]
        simp [DictEntry.refKey, q]
    · cases h2
theorem dic_no {K : Frag} {w : World} {a : Addr} {ks : List Str} {z : Str} (h : He.dicW K a = some (He.keysIn w.params ks)) (hz : z ∉ ks) : PySem.W.nsIn K a z = some none := by
  unfold He.dicW at h
  cases q : K.lookup a with
  | none =>
    rw [q] at h
    cases h
  | some o =>
    obtain ⟨oc, od, dt, osl⟩ := o
    rw [q] at h
    cases oc with
    | type c =>
      cases od with
      | none =>
        cases dt with
        | dict es n =>
          have h1 : (match decide (c = "dict") && (osl.isEmpty && !(a == sysModules)) with
            | true => some (es.toList.map He.keyOf)
            | false => none) = some (He.keysIn w.params ks) := h
          cases zz : decide (c = "dict") && (osl.isEmpty && !(a == sysModules)) with
          | false =>
            rw [zz] at h1
            cases h1
          | true =>
            rw [zz] at h1
            obtain ⟨i1, i2⟩ := ents_no (Option.some.inj h1) hz
            unfold PySem.W.nsIn
            rw [q]
            show (match es.toList.find? (·.key.isStr z) with | some e => some (some e.val) | none => if es.toList.any (·.refKey) then none else some none) = some none
            rw [i1]
            show (if es.toList.any (·.refKey) then none else some none) = some none
            rw [i2]
            rfl
        | _ => cases h
      | some b => cases dt <;> cases h
    | _ => cases od <;> cases dt <;> cases h
theorem says_dic {fa : List He.Fa} {fn : List He.DefD} {ts : List He.Tab} {w : World} {K : Frag} (c : He.SaysT fa fn ts w K) (i : Nat) {t : He.Tab} (h : ts[i]? = some t := by rfl) : He.dicW K (t.1 K) = some (He.keysIn w.params t.2) := by
  have e : ts.map (fun t => He.dicW K (t.1 K)) = ts.map fun t => some (He.keysIn w.params t.2) := congrArg (fun z : He.AlT => z.2) c
  have e2 : (ts.map fun t => He.dicW K (t.1 K))[i]? = (ts.map fun t => some (He.keysIn w.params t.2))[i]? := by rw [e]
  rw [List.getElem?_map, List.getElem?_map, h] at e2
  exact Option.some.inj e2
theorem tabq_of {K : Frag} {w : World} {mg : Str → Option Value} {x : Str} {kvs : List (Str × W)} (G : mg x = some (.ref (He.ga K x))) (hd : He.dicW K (He.ga K x) = some (He.keysIn w.params (kvs.map (·.1)))) (hv : tabVB K x kvs = true) : TabQ K w mg x kvs := by
  refine ⟨G, He.dicW_ok hd, fun z hz => dic_no hd hz, fun p hp => ?_⟩
  have h := List.all_eq_true.mp hv p hp
  cases e : PySem.W.nsIn K (He.ga K x) p.1 with
  | none =>
    rw [e] at h
    cases h
  | some o =>
    rw [e] at h
    cases o with
    | none => cases h
    | some v =>
      obtain ⟨v', h1, h2⟩ := tvB_ok h
      exact ⟨v, v', rfl, h1, h2⟩
theorem lk_mem {β : Type} {f : Str} {x : β} : ∀ {l : List (Str × β)}, lk f l = some x → (f, x) ∈ l
  | (g, y) :: r, h => by
    unfold lk at h
    split at h
    · rename_i e
      cases h
      rw [e]
      exact List.mem_cons_self
    · exact List.mem_cons_of_mem _ (lk_mem h)
def wTin (x : Str) (kvs : List (Str × W)) (neg : Bool) : F2 := fun y t μ P => t = .fn x ∧ (match y with
  | .str z => P (.bl (if neg then !decide (z ∈ kvs.map (·.1)) else decide (z ∈ kvs.map (·.1)))) μ
  | _ => False)
def wTix (x : Str) (kvs : List (Str × W)) : F2 := fun t y μ P => t = .fn x ∧ (match y with
  | .str z => (match lk z kvs with
    | some w => P w μ
    | none => False)
  | _ => False)
theorem q_tin {x : Str} {kvs : List (Str × W)} {neg : Bool} {z : Str} {μ : Mu} {P : Po} (h : P (.bl (if neg then !decide (z ∈ kvs.map (·.1)) else decide (z ∈ kvs.map (·.1)))) μ) : wTin x kvs neg (.str z) (.fn x) μ P := ⟨rfl, h⟩
theorem q_tix {x : Str} {kvs : List (Str × W)} {z : Str} {w : W} {μ : Mu} {P : Po} (e : lk z kvs = some w) (h : P w μ) : wTix x kvs (.fn x) (.str z) μ P := ⟨rfl, by
  show (match lk z kvs with
    | some w => P w μ
    | none => False)
  rw [e]
  exact h⟩
section
variable {X : Cx} {E : L2.St → XK} {x : Str} {kvs : List (Str × W)} {p pos : Pos}
theorem qe_tab (T : TabQ X.K X.w X.mg x kvs) (hg : Gl X x) (hdb : (x == ("__debug__" : Str)) = false := by decide) : QE X E (.Name x p) (eC (.fn x)) := qe_of (v := .ref (He.ga X.K x)) (pe_glob hg T.g rfl hdb) fun _ _ => .fn x
theorem tin_ns (T : TabQ X.K X.w X.mg x kvs) (z : Str) : ∃ r, PySem.W.nsIn X.K (He.ga X.K x) z = some r ∧ r.isSome = decide (z ∈ kvs.map (·.1)) := by
  by_cases h : z ∈ kvs.map (·.1)
  · obtain ⟨q, hq, rfl⟩ := List.mem_map.mp h
    obtain ⟨u, v, e, _⟩ := T.val q hq
    exact ⟨some u, e, by rw [decide_eq_true h]; rfl⟩
  · exact ⟨none, T.out z h, by rw [decide_eq_false h]; rfl⟩
theorem opU_tnin (T : TabQ X.K X.w X.mg x kvs) : OpR X (compareOp .NotIn) (rW X.K (wTin x kvs true)) := by
  obtain ⟨es, n, D⟩ := T.kd
  refine opR_imp (op_notIn_kd D) fun y t H Q h => ?_
  obtain ⟨wx, wy, μ, P, rx, ry, m, ⟨e, h⟩, l⟩ := h
  subst e
  split at h
  · rename_i z
    cases ry
    obtain ⟨r, e1, e2⟩ := tin_ns T z
    refine ⟨z, r, rw_str rx, rfl, e1, ?_⟩
    rw [e2]
    exact l.now h m (.bl _)
  · exact h.elim
theorem ixU_tab (T : TabQ X.K X.w X.mg x kvs) : IxR X (rW X.K (wTix x kvs)) := by
  intro value slice pins s σ H a b v u Q I rx ry h hs
  refine ix_kdict value slice pins s σ H a b v u Q I rx ry ?_ hs
  obtain ⟨wx, wy, μ, P, rx, ry, m, ⟨e, h⟩, l⟩ := h
  subst e
  split at h
  · split at h
    · rename_i z _ w ew
      cases rx
      obtain ⟨es, n, D⟩ := T.kd
      obtain ⟨u0, v0, e1, e2, e3⟩ := T.val _ (lk_mem ew)
      exact ⟨_, z, v0, rfl, rw_str ry, ⟨es, n, u0, D.at_, D.lit, e1, e2⟩, l.now h m (e3 H μ)⟩
    · exact h.elim
  · exact h.elim
theorem qe_tix {a b : Expr} {fa fb : FE} (T : TabQ X.K X.w X.mg x kvs) (ha : QE X E a fa) (hb : QE X E b fb) (hs : PlainIx b) : QE X E (.Subscript a b pos) (eOp (wTix x kvs) fa fb) := ⟨(pe_ix (ixU_tab T) ha.pe hb.pe hs).qimp fun σ H Q h => tE_two (fun _ _ _ _ z => z) h⟩
/-! calls of a local name that holds one of some defs -/
def wCl (ds : List (Str × FW)) (w : Option W) (a : FA) : FE := fun ρ μ P X => match w with
  | some (.fn x) => (match lk x ds with
    | some f => a ρ μ (fun ws μ1 => f ws μ1 P X) X
    | none => False)
  | _ => False
@[reducible] def eCl (i : Nat) (ds : List (Str × FW)) (a : FA) : FE := fun ρ μ P X => wCl ds (gv ρ i) a ρ μ P X
theorem q_cl {ds : List (Str × FW)} {x : Str} {f : FW} {a : FA} {ρ : Rho} {μ : Mu} {P : Po} {X : Xo} (e : lk x ds = some f) (h : a ρ μ (fun ws μ1 => f ws μ1 P X) X) : wCl ds (some (.fn x)) a ρ μ P X := by
  show (match lk x ds with
    | some f => a ρ μ (fun ws μ1 => f ws μ1 P X) X
    | none => False)
  rw [e]
  exact h
def DefsQ (X : Cx) (k : Nat) (ds : List (Str × FW)) : Prop := ∀ x f, lk x ds = some f → X.mg x = some (.ref (He.ga X.K x)) ∧ ∃ ps, DefQ X.prog X.w X.K X.mg X.base k x ps f
theorem defsN {k : Nat} : DefsQ X k [] := fun x f e => by cases e
theorem DefQ.mono {P : Program} {w : World} {K : Frag} {mg : Str → Option Value} {base : Heap} {j k : Nat} {y : Str} {ps : List Str} {f : FW} (h : DefQ P w K mg base j y ps f) (l : j ≤ k) : DefQ P w K mg base k y ps f := by
  obtain ⟨a, fd, F, r⟩ := h.ex
  exact ⟨a, fd, F.mono l, r⟩
theorem defsC {k : Nat} {y : Str} {ps : List Str} {f : FW} {ds : List (Str × FW)} (g : X.mg y = some (.ref (He.ga X.K y))) (D : DefQ X.prog X.w X.K X.mg X.base k y ps f) (hs : DefsQ X k ds) : DefsQ X k ((y, f) :: ds) := fun x' f' e => by
  unfold lk at e
  split at e
  · rename_i q
    cases e
    exact ⟨q ▸ g, ps, q ▸ D⟩
  · exact hs x' f' e
theorem qe_cl {k i : Nat} {e : Expr} {es : List Expr} {fa : FA} {ds : List (Str × FW)} (px : Px X E) (D : DefsQ X k ds) (hr : Room k X.A) (hN : X.N[i]? = some x) (hv : Vis X.env.scope x) (ha : QA X E (e :: es) fa) (hdb : (x == ("__debug__" : Str)) = false := by decide) (hcd : (x == ("__classdict__" : Str)) = false := by decide)
    (he : starEach (e :: es) X.env = (false, eval e X.env) :: starEach es X.env := by rfl) (hpl : (backTo pos (starEach es X.env)).any (·.1) = false := by rfl) : QE X E (.Call (.Name x p) (e :: es) [] pos) (eCl i ds fa) := by
  refine ⟨⟨fun pins s σ H Q I h => ?_⟩⟩
  obtain ⟨ρ, μ, P, XX, hh, hm, hf, hvv, hx⟩ := h
  have hf : wCl ds (gv ρ i) fa ρ μ P XX := hf
  cases eg : gv ρ i with
  | none =>
    rw [eg] at hf
    exact hf.elim
  | some w =>
    rw [eg] at hf
    unfold wCl at hf
    cases w with
    | fn y =>
      have hf : (match lk y ds with
        | some f => fa ρ μ (fun ws μ1 => f ws μ1 P XX) XX
        | none => False) := hf
      cases ef : lk y ds with
      | none =>
        rw [ef] at hf
        exact hf.elim
      | some f =>
        rw [ef] at hf
        obtain ⟨gy, ps, DQ⟩ := D y f ef
        obtain ⟨a, fd, F, g, kp, b⟩ := DQ.ex
        have ea : a = He.ga X.K y := by
          rw [gy] at g
          cases g
          rfl
        subst ea
        obtain ⟨v, h1, h2⟩ := hh.2 i _ (gv_get eg)
        cases h2
        refine wpAny_Call_Name_kw (thn ((pe_var (pos := p) hN hv hdb hcd).run pins s σ H (fun v H1 => v = .ref (He.ga X.K y) ∧ H1 = H) I ⟨_, h1, rfl, rfl⟩) fun u s1 hu => ?_)
        obtain ⟨v, H1, I1, r1, ev, eh⟩ := hu
        subst ev eh
        cases r1
        refine PySem.W.callWith_K (h₀ := X.base) I1.ok.mod.kin kp (thn (ha.go pos I1 hh hm hf hx) fun us s2 ⟨vs, H2, ws, μ2, I2, r, p2, e2, m2, r2⟩ => ⟨I2.kIn, ?_⟩) he hpl
        exact run_fnSD (E := E) F hr b .nil (px σ) I2 r (sp_now r2 m2 p2 (hvv.stp e2) (hx.stp e2))
    | _ => exact hf.elim
end
theorem pf_hit {f : Str} {w x : W} {r : List (Str × W)} : pf f w ((f, x) :: r) = (f, w) :: r := by
  unfold pf
  rw [if_pos rfl]
theorem pf_skip {f g : Str} {w x : W} {r : List (Str × W)} (h : g ≠ f) : pf f w ((g, x) :: r) = (g, x) :: pf f w r := by
  rw [pf.eq_def]
  exact if_neg h
theorem pf_nil {f : Str} {w : W} : pf f w [] = [(f, w)] := rfl
theorem q_nisT {w : W} {A B : Prop} (h : isN w = false) (a : A) : if (!isN w) = true then A else B := q_t (by rw [h]; rfl) a
theorem q_nisF {w : W} {A B : Prop} (h : isN w = true) (b : B) : if (!isN w) = true then A else B := q_f (by rw [h]; rfl) b
end Q
namespace Q
open PySem PySem.Spec PyProof.Rows L2 Evl
/-! sorted(xs, key=lambda x: x[k]) -/
/-! ### a lambda made: only the maker's own table is written -/
/-! ### over W -/
end Q
namespace Q
open PySem PySem.Spec PyProof.Rows L2 Evl
/-! defs that make lambdas: their code object is known; a law that starts with the tables -/
end Q
namespace Q
open PySem PySem.Spec PyProof.Rows L2 Evl
/-! defs that call themselves: by levels -/
/-! 'c' + x.replace('y', 'z') -/
/-! int(text) -/
end Q
namespace Q
open PySem PySem.Spec PyProof.Rows L2 Evl
/-! a, b, c = x, y, z -/
@[reducible] def sPar3 (i j k : Nat) (a : FA) : FS := fun ρ μ N => a ρ μ (fun ws μ1 => match ws with
  | [x, y, z] => N.nx (sv (sv (sv ρ i x) j y) k z) μ1
  | _ => False) (N.ex ρ)
theorem RwAll.three {K : Frag} {H : Hp} {μ : Mu} {vs : List V} {x y z : W} (h : RwAll K H μ vs [x, y, z]) : ∃ u v w, vs = [u, v, w] ∧ Rw K H μ u x ∧ Rw K H μ v y ∧ Rw K H μ w z := by
  cases h with
  | cons a b =>
    obtain ⟨v, w, rfl, c, d⟩ := RwAll.two b
    exact ⟨_, v, w, rfl, a, c, d⟩
theorem qs_par3 {X : Cx} {E : L2.St → XK} {i j k : Nat} {x y z : Str} {a b c : Expr} {f : FA} {px py pz pt pos : Pos} {kt k2 pt2} (hc : X.calm = true) (hN : X.N.Nodup) (hi : X.N[i]? = some x) (hj : X.N[j]? = some y) (hk : X.N[k]? = some z) (hij : i ≠ j) (hik : i ≠ k) (hjk : j ≠ k)
    (hx : X.env.scope.names.lookup x = some .local) (hy : X.env.scope.names.lookup y = some .local) (hz : X.env.scope.names.lookup z = some .local) (ha : QA X E [a, b, c] f)
    (hw : swappedStores [.Tuple [.Name x px, .Name y py, .Name z pz] kt pt] (.Tuple [a, b, c] k2 pt2) X.env = pure (some [x, y, z]))
    (hs : swapsWithSole [.Tuple [.Name x px, .Name y py, .Name z pz] kt pt] (.Tuple [a, b, c] k2 pt2) pos.line X.env = pure false := by rfl) :
    QS X E (.Assign [.Tuple [.Name x px, .Name y py, .Name z pz] kt pt] (.Tuple [a, b, c] k2 pt2) pos) (sPar3 i j k f) := ⟨(ps_par3 hc hN hi hj hk hij hik hjk hx hy hz ha.pa hw hs).qimp fun D σ H h => by
  obtain ⟨ρ, μ, N, hh, hm, hf, l⟩ := h
  refine ⟨ρ, μ, _, _, hh, hm, hf, fun ws μ1 vs H1 p1 e1 m1 r1 => ?_, l.xl hh⟩
  split at p1
  · obtain ⟨u, v, w, rfl, r, s, t⟩ := r1.three
    exact ⟨u, v, w, rfl, l.nx _ μ1 _ H1 p1 e1 m1 ((((hh.stp e1).sv i r).sv j s).sv k t)⟩
  · exact p1.elim⟩
end Q
namespace PySem
open Sem (wp)
end PySem
namespace Q
open PySem PySem.Spec PyProof.Rows L2 Evl
/-! {**a, **b} -/
end Q
namespace HT
open PySem PySem.Spec PyProof.Rows
section
variable {prog : Program} {w : World} {A : Around} {E : Value → Shared → Prop} {s : Shared}
theorem adjust_rev (n : Nat) : Builtin.Slice.sliceAdjust none none (-1) (n : Int) = ((n : Int) - 1, -1) := by
  unfold Builtin.Slice.sliceAdjust
  simp
theorem places_rev (n : Nat) : Builtin.Slice.slicePlaces ((n : Int) - 1) (-1) (-1) = n := by
  unfold Builtin.Slice.slicePlaces
  have h1 : ¬ (-1 : Int) > 0 := by omega
  have h2 : (-(-1) : Int) = 1 := rfl
  simp only [h1, if_false, h2, Int.ediv_one]
  split <;> omega
theorem pick_rev (xs : Array Value) : ((List.range xs.size).filterMap fun (m : Nat) => xs[((xs.size : Int) - 1 + (m : Int) * (-1)).toNat]?).toArray = xs.toList.reverse.toArray := by
  have e : ((List.range xs.size).filterMap fun (m : Nat) => xs[((xs.size : Int) - 1 + (m : Int) * (-1)).toNat]?) = ((List.range xs.size).map fun k => xs.size - 1 - k).filterMap (xs[·]?) := by
    rw [List.filterMap_map]
    congr 1
    funext m
    show xs[((xs.size : Int) - 1 + (m : Int) * (-1)).toNat]? = xs[xs.size - 1 - m]?
    have : ((xs.size : Int) - 1 + (m : Int) * (-1)).toNat = xs.size - 1 - m := by omega
    rw [this]
  rw [e, PySem.W.krv_range, List.filterMap_reverse, PySem.W.krv_all]
theorem sliceApplied_rev {sl : Addr} {vl vu vs : Value} {n : Nat} {Q : Int × Int × Nat → Shared → Prop} (hs : s.heap.IsSliceOf sl vl vu vs) (pl : IsPart vl none) (pu : IsPart vu none) (ps : IsPart vs (some (-1)))
    (h : Q ((n : Int) - 1, -1, n) s) : wpAny (model prog w) A (Builtin.Slice.sliceApplied (.ref sl) (pure (n : Int))) Q E s := by
  obtain ⟨os, hos, hcs, hds⟩ := id hs
  unfold Builtin.Slice.sliceApplied Builtin.Slice.sliceFields
  refine wpAny_bind (wpAny_bind (wpAny_field hos hds (x := vl) rfl (wpAny_bind (wpAny_field hos hds (x := vu) rfl (wpAny_bind (wpAny_field hos hds (x := vs) rfl (wpAny_pure ?_)))))))
  refine wpAny_bind (slicePart_ ps ?_)
  show wpAny _ _ (if ((-1 : Int) == 0) = true then _ else _) _ _ s
  rw [if_neg (by decide)]
  refine wpAny_bind (slicePart_ pl (wpAny_bind (slicePart_ pu (wpAny_bind (wpAny_pure ?_)))))
  show wpAny _ _ (match Builtin.Slice.sliceAdjust none none (-1) (n : Int) with | (lo, hi) => pure (lo, (-1 : Int), Builtin.Slice.slicePlaces lo hi (-1))) _ _ s
  rw [adjust_rev n]
  show wpAny _ _ (pure ((n : Int) - 1, (-1 : Int), Builtin.Slice.slicePlaces ((n : Int) - 1) (-1) (-1))) _ _ s
  rw [places_rev]
  exact wpAny_pure h
theorem getItem_tuple_rev {t sl : Addr} {items : Array Value} {vl vu vs : Value} {Q : Value → Shared → Prop} (ht : IsTup s.heap t items) (hs : s.heap.IsSliceOf sl vl vu vs) (pl : IsPart vl none) (pu : IsPart vu none) (ps : IsPart vs (some (-1)))
    (h : Q (.ref s.heap.objs.size) { s with heap := s.heap.push { cls := .type "tuple", data := .seq items.toList.reverse.toArray } })
    (hsz : items.size ≤ sizeLine) : wpAny (model prog w) A (getItem (.ref t) (.ref sl)) Q E s := by
  have htake : sizeOk (.seq items.toList.reverse.toArray) := by
    show items.toList.reverse.toArray.size ≤ sizeLine
    rw [List.size_toArray, List.length_reverse, Array.length_toList]
    exact hsz
  obtain ⟨os, hos, hcs, hds⟩ := id hs
  have hTs : s.TypeIs (.ref sl) "slice" := ⟨os, hos, hcs⟩
  unfold getItem
  try with_reducible refine wpAny_holding ?_
  first | refine wpAny_bind (wpAny_pure ?_) | skip
  refine wpAny_bind (wpAny_sequenceKey ht.typeIs (by decide) ?_)
  refine wpAny_bind (wpAny_callSpecial?_slot (name := Str.ofString "__getitem__") ht.typeIs PyProof.Rows.slot_tuple_getitem
    (wpAny_call_entry PyProof.Rows.slot_tuple_getitem ht.typeIs entry_tuple_getitem ?_ (args_tuple_getitem _ _)))
  show wpAny _ _ (Builtin.Tuple.tupleItemsOf (.ref t) >>= _) _ _ s
  refine wpAny_bind (tupleItemsOf_ ht ?_)
  refine wpAny_bind (wpAny_typeOf hTs ?_)
  rw [if_pos (by decide)]
  refine wpAny_bind (sliceApplied_rev hs pl pu ps ?_)
  have hno : ¬ (((items.size : Int) - 1 == 0 && (-1 : Int) == 1 && items.size == items.size) = true) := by
    intro q
    rw [Bool.and_eq_true, Bool.and_eq_true] at q
    exact absurd q.1.2 (by decide)
  show wpAny _ _ (if ((items.size : Int) - 1 == 0 && (-1 : Int) == 1 && items.size == items.size) = true then _ else _) _ _ s
  rw [if_neg hno, pick_rev]
  first
    | exact wpAny_bind (m := Builtin.Tuple.tupleExact _) (wpAny_newObj_type (wpAny_pure ⟨_, rfl, wpAny_pure h⟩) htake)
    | exact wpAny_bind (m := Builtin.Tuple.tupleExact _) (wpAny_newObj_type (wpAny_bind (wpAny_pure (wpAny_pure ⟨_, rfl, wpAny_pure h⟩))) htake)
    | exact wpAny_bind (wpAny_bind (m := Builtin.Tuple.tupleExact _) (wpAny_newObj_type (wpAny_pure (wpAny_pure ⟨_, rfl, wpAny_pure h⟩)) htake))
    | exact wpAny_bind (wpAny_bind (m := Builtin.Tuple.tupleExact _) (wpAny_newObj_type (wpAny_pure ⟨_, rfl, wpAny_pure h⟩) htake))
end
end HT
namespace L2
open PySem PySem.Spec PyProof.Rows
section
variable {X : Cx}
def tRevA (K : PySem.W.Frag) (te : TE) : TE := fun σ H Q => te σ H fun x H1 => ∃ a xs, x = .ref a ∧ ((SqL K H1 a xs ∧ ∀ p, H1 p = none → Q (.ref p) (upd H1 p (.lst xs.reverse))) ∨ (SqT K H1 a xs ∧ ∀ p, H1 p = none → Q (.ref p) (upd H1 p (.tup xs.reverse))))
theorem pe_revA {e : Expr} {te : TE} {k : Nat} {p1 p2 p3 pos : Pos} (he : PE X e te) : PE X (.Subscript e (.Slice none none (some (.UnaryOp .USub (.Constant (.int 1) k p1) p2)) p3) pos) (tRevA X.K te) := by
  refine ⟨fun pins s σ H Q I h => ?_⟩
  refine Subscript_ (thn (he.run pins s σ H _ I h) fun v s1 ⟨x, H1, I1, r1, q1⟩ => ?_)
  obtain ⟨a, xs, ex, q1⟩ := q1
  subst ex
  cases r1
  have hst : PO X (some (.UnaryOp .USub (.Constant (.int 1) k p1) p2)) (tPart (tUn (rU fun i => .int (-i)) (tC (.int 1)))) := po_some (pe_un un_neg pe_int)
  refine wpAny_Slice (thn (po_none.run pins s1 σ H1 (fun o H2 => o = none ∧ H2 = H1) I1 ⟨rfl, rfl⟩) fun vl s2 ⟨l, H2, I2, pl, el, e2⟩ => ?_)
  subst el e2
  refine thn (po_none.run pins s2 σ H2 (fun o H3 => o = none ∧ H3 = H2) I2 ⟨rfl, rfl⟩) fun vu s3 ⟨u, H3, I3, pu, eu, e3⟩ => ?_
  subst eu e3
  refine thn (hst.run pins s3 σ H3 (fun o H4 => o = some (-1) ∧ H4 = H3) I3 ⟨1, rfl, -1, rfl, rfl, rfl⟩) fun vs s4 ⟨o, H4, I4, ps, eo, e4⟩ => ?_
  subst eo e4
  have I5 : Inv X pins σ H4 { s4 with heap := s4.heap.push { cls := .type "slice", data := .fields #[vl, vu, vs] } } := I4.kept (t' := s4.toks) fun b ob q => Heap.get?_push_of_some _ q
  show wpAny (model X.prog X.w) X.A (subscriptTail e (.Slice none none (some (.UnaryOp .USub (.Constant (.int 1) k p1) p2)) p3) (.ref a) (.ref s4.heap.objs.size)) (EP X pins σ Q) X.xe { s4 with heap := s4.heap.push { cls := .type "slice", data := .fields #[vl, vu, vs] } }
  rcases q1 with ⟨hx, q⟩ | ⟨hx, q⟩
  · obtain ⟨its, r, ht, hz⟩ := I5.list hx
    have hlen := r.length
    refine tail_any (ops := [.ref a, .ref s4.heap.objs.size]) ht.isList.typeIs (PySem.slot_list_getitem.lookup) ?_ (by with_unfolding_all rfl)
    refine wpAny_getItem_list_slice ht.isList (Heap.IsSliceOf.new _ vl vu vs) pl pu ps (by decide) ?_ (by rw [List.size_toArray]; omega)
    rw [PySem.W.krv_pick]
    refine ⟨.ref _, _, I5.laid (t' := s4.toks) (o := .lst xs.reverse) (fun b ob q => Heap.get?_push_of_some _ q) (Nat.le_refl _) ?_, rfl, q _ (I5.hok.fresh (Nat.le_refl _))⟩
    exact ⟨by rw [List.length_reverse]; exact hz, _, 0, r.reverse, Heap.get?_push_size _ rfl⟩
  · obtain ⟨its, r, ht, hz⟩ := I5.tuple hx
    have hlen := r.length
    refine tail_any (ops := [.ref a, .ref s4.heap.objs.size]) ht.typeIs (PyProof.Rows.slot_tuple_getitem.lookup) ?_ (by with_unfolding_all rfl)
    refine HT.getItem_tuple_rev ht (Heap.IsSliceOf.new _ vl vu vs) pl pu ps ?_ (by rw [List.size_toArray]; omega)
    refine ⟨.ref _, _, I5.laid (t' := s4.toks) (o := .tup xs.reverse) (fun b ob q => Heap.get?_push_of_some _ q) (Nat.le_refl _) ?_, rfl, q _ (I5.hok.fresh (Nat.le_refl _))⟩
    exact ⟨by rw [List.length_reverse]; exact hz, _, r.reverse, IsTup.new _ _⟩
end
end L2
namespace Q
open PySem PySem.Spec PyProof.Rows L2 Evl
section
variable {X : Cx} {E : L2.St → XK}
@[reducible] def wRev (x : W) (μ : Mu) (P : Po) : Prop := match x with
  | .tup ws => P (.tup ws.reverse) μ
  | x => (match rdL μ x with
    | some ws => P (.lst ws.reverse) μ
    | none => False)
@[reducible] def eRev (a : FE) : FE := fun ρ μ P X => a ρ μ (fun x μ1 => wRev x μ1 P) X
theorem rev_rw {K : Frag} {H : Hp} {μ : Mu} : ∀ {vs : List V} {ws : List W}, RwAll K H μ vs ws → RwAll K H μ vs.reverse ws.reverse
  | _, _, .nil => .nil
  | _, _, .cons h hs => by
    rw [List.reverse_cons, List.reverse_cons]
    exact RwAll.app (rev_rw hs) (.cons h .nil)
theorem qe_rev {e : Expr} {fa : FE} {k : Nat} {p1 p2 p3 pos : Pos} (he : QE X E e fa) : QE X E (.Subscript e (.Slice none none (some (.UnaryOp .USub (.Constant (.int 1) k p1) p2)) p3) pos) (eRev fa) :=
  ⟨(pe_revA he.pe).qimp fun σ H Q h => by
  obtain ⟨ρ, μ, P, XX, hh, hm, hf, hv, hx⟩ := h
  refine ⟨ρ, μ, _, XX, hh, hm, hf, fun x μ1 v H1 p1 e1 m1 r1 => ?_, hx⟩
  have hv1 : VL X.K Q μ1 H1 P := fun w μ' v' H' p e => hv w μ' v' H' p (e1.trans e)
  dsimp only [wRev] at p1
  split at p1
  · cases r1 with
    | @tup a vs _ q hs =>
      exact ⟨_, _, rfl, .inr ⟨tup_sq q, fun p hp => hv1.tup p1 m1 (rev_rw hs) hp⟩⟩
  · split at p1
    · rename_i ws ex
      obtain ⟨a, vs, rfl, hq, hs⟩ := rdL_at ex r1 m1
      exact ⟨a, vs, rfl, .inl ⟨hq, fun p hp => hv1.lst p1 m1 (rev_rw hs) hp⟩⟩
    · exact p1.elim⟩
end
end Q
namespace Q
open PySem
/-! the defs as functions -/
def f_is_integer_B : FW := fDef 3 3 (sSeq (sIf (cOr (cNot (cV (eIsi .int (eV 0)))) (cV (eIsi .bl (eV 0)))) (sRt (eC (.bl false))) (sNx))
  (sRt (eChain wLe wLe (eV 1) (eV 0) (eV 2))))
noncomputable def f_is_integer_S : { f : FW // f = f_is_integer_B } := Classical.choice ⟨⟨_, rfl⟩⟩
noncomputable def f_is_integer : FW := f_is_integer_S.1
theorem f_is_integer_eq : f_is_integer = f_is_integer_B := f_is_integer_S.2
def f__law_rich_B : FW := fDef 2 3 (sSeq (sIf (cV (eOp wGe (eV 0) (eOp wPow (eC (.int 10)) (eC (.int 18))))) (sRt (eB bInt (aCons (eV 0) (aNil)))) (sNx))
  (sSeq (sSet 2 (eOp wMod (eB bInt (aCons (eOp wAdd (eOp wAdd (eOp wMul (eV 0) (eC (.int 48271))) (eOp wMul (eV 1) (eC (.int 69621)))) (eC (.int 11))) (aNil))) (eC (.int 2147483647))))
  (sRt (eOp wAdd (eOp wMul (eV 2) (eC (.int 2147483629))) (eOp wMod (eB bInt (aCons (eOp wAdd (eOp wMul (eV 2) (eC (.int 16807))) (eV 0)) (aNil))) (eC (.int 2147483629)))))))
noncomputable def f__law_rich_S : { f : FW // f = f__law_rich_B } := Classical.choice ⟨⟨_, rfl⟩⟩
noncomputable def f__law_rich : FW := f__law_rich_S.1
theorem f__law_rich_eq : f__law_rich = f__law_rich_B := f__law_rich_S.2
def f_kind_of_B : FW := fDef 1 1 (sSeq (sIf (cAnd (cV (eIsi .tup (eV 0))) (cAnd (cV (eOp wGt (eB bLen (aCons (eV 0) (aNil))) (eC (.int 0)))) (cV (eIsi .str (eOp wIx (eV 0) (eC (.int 0))))))) (sRt (eOp wIx (eV 0) (eC (.int 0)))) (sNx))
  (sRt (eC (.str ""))))
noncomputable def f_kind_of_S : { f : FW // f = f_kind_of_B } := Classical.choice ⟨⟨_, rfl⟩⟩
noncomputable def f_kind_of : FW := f_kind_of_S.1
theorem f_kind_of_eq : f_kind_of = f_kind_of_B := f_kind_of_S.2
def f__wall_B : FW := fDef 1 1 (itWh (cV (eC (.bl true))) (sNx))
noncomputable def f__wall_S : { f : FW // f = f__wall_B } := Classical.choice ⟨⟨_, rfl⟩⟩
noncomputable def f__wall : FW := f__wall_S.1
theorem f__wall_eq : f__wall = f__wall_B := f__wall_S.2
def f_is_key_B : FW := fDef 1 2 (sSeq (sIf (cOr (cNot (cV (eIsi .str (eV 0)))) (cNot (cV (eChain wLe wLe (eC (.int 1)) (eB bLen (aCons (eV 0) (aNil))) (eC (.int 8)))))) (sRt (eC (.bl false))) (sNx))
  (sSeq (sFor (iSq (eV 0)) (gN 1) (sIf (cNot (cV (eChain wLe wLe (eC (.str "a")) (eV 1) (eC (.str "z"))))) (sRt (eC (.bl false))) (sNx)))
  (sRt (eC (.bl true)))))
noncomputable def f_is_key_S : { f : FW // f = f_is_key_B } := Classical.choice ⟨⟨_, rfl⟩⟩
noncomputable def f_is_key : FW := f_is_key_S.1
theorem f_is_key_eq : f_is_key = f_is_key_B := f_is_key_S.2
def f_is_bound_B : FW := fDef 1 1 (sRt (eOr (eCall f_is_key (aCons (eV 0) (aNil))) (eAnd (eIsi .str (eV 0)) (eOp wEqu (eV 0) (eC (.str ""))))))
noncomputable def f_is_bound_S : { f : FW // f = f_is_bound_B } := Classical.choice ⟨⟨_, rfl⟩⟩
noncomputable def f_is_bound : FW := f_is_bound_S.1
theorem f_is_bound_eq : f_is_bound = f_is_bound_B := f_is_bound_S.2
def f_below_B : FW := fDef 2 2 (sSeq (sIf (cV (eOp wIs (eV 0) (eC .non))) (sRt (eC (.bl false))) (sNx))
  (sRt (eOr (eOp wIs (eV 1) (eC .non)) (eOp wLt (eV 0) (eV 1)))))
noncomputable def f_below_S : { f : FW // f = f_below_B } := Classical.choice ⟨⟨_, rfl⟩⟩
noncomputable def f_below : FW := f_below_S.1
theorem f_below_eq : f_below = f_below_B := f_below_S.2
def f_contains_B : FW := fDef 3 3 (sRt (eAnd (eOp wLe (eV 0) (eV 2)) (eCall f_below (aCons (eV 2) (aCons (eV 1) (aNil))))))
noncomputable def f_contains_S : { f : FW // f = f_contains_B } := Classical.choice ⟨⟨_, rfl⟩⟩
noncomputable def f_contains : FW := f_contains_S.1
theorem f_contains_eq : f_contains = f_contains_B := f_contains_S.2
def f_is_printable_B : FW := fDef 1 2 (sSeq (sIf (cNot (cV (eIsi .str (eV 0)))) (sRt (eC (.bl false))) (sNx))
  (sSeq (sFor (iSq (eV 0)) (gN 1) (sIf (cOr (cNot (cV (eChain wLe wLe (eC (.str " ")) (eV 1) (eC (.str "~"))))) (cV (eOp wEqu (eB bOrd (aCons (eV 1) (aNil))) (eC (.int 37))))) (sRt (eC (.bl false))) (sNx)))
  (sRt (eC (.bl true)))))
noncomputable def f_is_printable_S : { f : FW // f = f_is_printable_B } := Classical.choice ⟨⟨_, rfl⟩⟩
noncomputable def f_is_printable : FW := f_is_printable_S.1
theorem f_is_printable_eq : f_is_printable = f_is_printable_B := f_is_printable_S.2
def f_is_value_B : FW := fDef 1 1 (sRt (eAnd (eCall f_is_printable (aCons (eV 0) (aNil))) (eOp wLe (eB bLen (aCons (eV 0) (aNil))) (eC (.int 40)))))
noncomputable def f_is_value_S : { f : FW // f = f_is_value_B } := Classical.choice ⟨⟨_, rfl⟩⟩
noncomputable def f_is_value : FW := f_is_value_S.1
theorem f_is_value_eq : f_is_value = f_is_value_B := f_is_value_S.2
def f__is_key_alone_B : FW := fDef 1 1 (sRt (eAnd (eOp wEqu (eB bLen (aCons (eV 0) (aNil))) (eC (.int 2))) (eCall f_is_key (aCons (eOp wIx (eV 0) (eC (.int 1))) (aNil)))))
noncomputable def f__is_key_alone_S : { f : FW // f = f__is_key_alone_B } := Classical.choice ⟨⟨_, rfl⟩⟩
noncomputable def f__is_key_alone : FW := f__is_key_alone_S.1
theorem f__is_key_alone_eq : f__is_key_alone = f__is_key_alone_B := f__is_key_alone_S.2
def f__is_put_B : FW := fDef 1 1 (sRt (eAnd (eOp wEqu (eB bLen (aCons (eV 0) (aNil))) (eC (.int 3))) (eAnd (eCall f_is_key (aCons (eOp wIx (eV 0) (eC (.int 1))) (aNil))) (eCall f_is_value (aCons (eOp wIx (eV 0) (eC (.int 2))) (aNil))))))
noncomputable def f__is_put_S : { f : FW // f = f__is_put_B } := Classical.choice ⟨⟨_, rfl⟩⟩
noncomputable def f__is_put : FW := f__is_put_S.1
theorem f__is_put_eq : f__is_put = f__is_put_B := f__is_put_S.2
def f__is_swap_B : FW := fDef 1 1 (sRt (eAnd (eOp wEqu (eB bLen (aCons (eV 0) (aNil))) (eC (.int 4))) (eAnd (eCall f_is_key (aCons (eOp wIx (eV 0) (eC (.int 1))) (aNil))) (eAnd (eCall f_is_value (aCons (eOp wIx (eV 0) (eC (.int 2))) (aNil))) (eCall f_is_value (aCons (eOp wIx (eV 0) (eC (.int 3))) (aNil)))))))
noncomputable def f__is_swap_S : { f : FW // f = f__is_swap_B } := Classical.choice ⟨⟨_, rfl⟩⟩
noncomputable def f__is_swap : FW := f__is_swap_S.1
theorem f__is_swap_eq : f__is_swap = f__is_swap_B := f__is_swap_S.2
def f__is_page_B : FW := fDef 1 1 (sRt (eAnd (eOp wEqu (eB bLen (aCons (eV 0) (aNil))) (eC (.int 3))) (eAnd (eCall f_is_bound (aCons (eOp wIx (eV 0) (eC (.int 1))) (aNil))) (eCall f_is_integer (aCons (eOp wIx (eV 0) (eC (.int 2))) (aCons (eC (.int 1)) (aCons (eC (.int 50)) (aNil))))))))
noncomputable def f__is_page_S : { f : FW // f = f__is_page_B } := Classical.choice ⟨⟨_, rfl⟩⟩
noncomputable def f__is_page : FW := f__is_page_S.1
theorem f__is_page_eq : f__is_page = f__is_page_B := f__is_page_S.2
def f_is_operation_B : FW := fDef 1 3 (sSeq (sSet 1 (eCall f_kind_of (aCons (eV 0) (aNil))))
  (sSeq (sIf (cV (eOp (wTin "OPERATIONS" [("get", .fn "_is_key_alone"), ("put", .fn "_is_put"), ("drop", .fn "_is_key_alone"), ("swap", .fn "_is_swap"), ("page", .fn "_is_page")] true) (eV 1) (eC (.fn "OPERATIONS")))) (sRt (eC (.bl false))) (sNx))
  (sSeq (sSet 2 (eOp (wTix "OPERATIONS" [("get", .fn "_is_key_alone"), ("put", .fn "_is_put"), ("drop", .fn "_is_key_alone"), ("swap", .fn "_is_swap"), ("page", .fn "_is_page")]) (eC (.fn "OPERATIONS")) (eV 1)))
  (sRt (eCl 2 [("_is_key_alone", f__is_key_alone), ("_is_put", f__is_put), ("_is_swap", f__is_swap), ("_is_page", f__is_page)] (aCons (eV 0) (aNil)))))))
noncomputable def f_is_operation_S : { f : FW // f = f_is_operation_B } := Classical.choice ⟨⟨_, rfl⟩⟩
noncomputable def f_is_operation : FW := f_is_operation_S.1
theorem f_is_operation_eq : f_is_operation = f_is_operation_B := f_is_operation_S.2
def f_place_B : FW := fDef 1 1 (sSeq (sIf (cNot (cV (eCall f_is_operation (aCons (eV 0) (aNil))))) (sRaise "BadOperation") (sNx))
  (sRt (eOp wIx (eV 0) (eC (.int 1)))))
noncomputable def f_place_S : { f : FW // f = f_place_B } := Classical.choice ⟨⟨_, rfl⟩⟩
noncomputable def f_place : FW := f_place_S.1
theorem f_place_eq : f_place = f_place_B := f_place_S.2
def f_is_client_B : FW := fDef 1 1 (sRt (eCall f_is_integer (aCons (eV 0) (aCons (eUn wNeg (eC (.int 100))) (aCons (eUn wNeg (eC (.int 1))) (aNil))))))
noncomputable def f_is_client_S : { f : FW // f = f_is_client_B } := Classical.choice ⟨⟨_, rfl⟩⟩
noncomputable def f_is_client : FW := f_is_client_S.1
theorem f_is_client_eq : f_is_client = f_is_client_B := f_is_client_S.2
def f__law_cell_2_B : FW := fDef 2 2 (sSeq (sIf (cV (eOp wLt (eV 1) (eB bLen (aCons (eV 0) (aNil))))) (sRt (eB bInt (aCons (eOp wIx (eV 0) (eV 1)) (aNil)))) (sNx))
  (sRt (eC (.int 0))))
noncomputable def f__law_cell_2_S : { f : FW // f = f__law_cell_2_B } := Classical.choice ⟨⟨_, rfl⟩⟩
noncomputable def f__law_cell_2 : FW := f__law_cell_2_S.1
theorem f__law_cell_2_eq : f__law_cell_2 = f__law_cell_2_B := f__law_cell_2_S.2
def f__law_word_B : FW := fDef 3 6 (sSeq (sSet 3 (eC (.str "")))
  (sSeq (sSet 4 (eB bInt (aCons (eV 2) (aNil))))
  (sSeq (sFor (iR1 (aCons (eV 0) (aNil))) (gN 5) (sSeq (sSet 3 (eOp wAdd (eV 3) (eOp wIx (eV 1) (eOp wMod (eB bInt (aCons (eV 4) (aNil))) (eB bLen (aCons (eV 1) (aNil)))))))
  (sSet 4 (eOp wFdv (eV 4) (eB bLen (aCons (eV 1) (aNil)))))))
  (sRt (eV 3)))))
noncomputable def f__law_word_S : { f : FW // f = f__law_word_B } := Classical.choice ⟨⟨_, rfl⟩⟩
noncomputable def f__law_word : FW := f__law_word_S.1
theorem f__law_word_eq : f__law_word = f__law_word_B := f__law_word_S.2
def f__law_key_B : FW := fDef 1 1 (sSeq (sIf (cV (eOp wLt (eOp wMod (eB bInt (aCons (eV 0) (aNil))) (eC (.int 4))) (eC (.int 3)))) (sRt (eOp wIx (eLV (aCons (eC (.str "a")) (aCons (eC (.str "b")) (aCons (eC (.str "c")) (aCons (eC (.str "d")) (aCons (eC (.str "k")) (aCons (eC (.str "m")) (aCons (eC (.str "kk")) (aCons (eC (.str "z")) (aNil)))))))))) (eOp wMod (eOp wFdv (eV 0) (eC (.int 4))) (eC (.int 8))))) (sNx))
  (sRt (eCall f__law_word (aCons (eOp wAdd (eC (.int 1)) (eOp wMod (eOp wFdv (eV 0) (eC (.int 4))) (eC (.int 8)))) (aCons (eC (.str "abcdefghijklmnopqrstuvwxyz")) (aCons (eOp wFdv (eV 0) (eC (.int 32))) (aNil)))))))
noncomputable def f__law_key_S : { f : FW // f = f__law_key_B } := Classical.choice ⟨⟨_, rfl⟩⟩
noncomputable def f__law_key : FW := f__law_key_S.1
theorem f__law_key_eq : f__law_key = f__law_key_B := f__law_key_S.2
def f__law_bound_B : FW := fDef 1 1 (sSeq (sIf (cV (eOp wEqu (eOp wMod (eB bInt (aCons (eV 0) (aNil))) (eC (.int 6))) (eC (.int 5)))) (sRt (eC (.str ""))) (sNx))
  (sRt (eCall f__law_key (aCons (eOp wFdv (eV 0) (eC (.int 6))) (aNil)))))
noncomputable def f__law_bound_S : { f : FW // f = f__law_bound_B } := Classical.choice ⟨⟨_, rfl⟩⟩
noncomputable def f__law_bound : FW := f__law_bound_S.1
theorem f__law_bound_eq : f__law_bound = f__law_bound_B := f__law_bound_S.2
def f__law_value_B : FW := fDef 1 2 (sSeq (sIf (cV (eOp wLt (eOp wMod (eB bInt (aCons (eV 0) (aNil))) (eC (.int 4))) (eC (.int 3)))) (sRt (eOp wIx (eLV (aCons (eC (.str "x")) (aCons (eC (.str "y")) (aCons (eC (.str "")) (aNil))))) (eOp wMod (eOp wFdv (eV 0) (eC (.int 4))) (eC (.int 3))))) (sNx))
  (sSeq (sSet 1 (eC (.str " !\"#$&'()*+,-./0123456789:;<=>?@ABCDEFGHIJKLMNOPQRSTUVWXYZ[\\]^_`abcdefghijklmnopqrstuvwxyz{|}~")))
  (sRt (eCall f__law_word (aCons (eOp wMod (eOp wFdv (eV 0) (eC (.int 4))) (eC (.int 41))) (aCons (eV 1) (aCons (eOp wFdv (eV 0) (eC (.int 164))) (aNil))))))))
noncomputable def f__law_value_S : { f : FW // f = f__law_value_B } := Classical.choice ⟨⟨_, rfl⟩⟩
noncomputable def f__law_value : FW := f__law_value_S.1
theorem f__law_value_eq : f__law_value = f__law_value_B := f__law_value_S.2
def f__law_operation_B : FW := fDef 1 5 (sSeq (sSet 1 (eOp wIx (eLV (aCons (eC (.str "get")) (aCons (eC (.str "put")) (aCons (eC (.str "drop")) (aCons (eC (.str "swap")) (aCons (eC (.str "page")) (aCons (eC (.str "put")) (aNil)))))))) (eOp wMod (eV 0) (eC (.int 6)))))
  (sSeq (sSet 2 (eOp wFdv (eV 0) (eC (.int 6))))
  (sSeq (sIf (cV (eOp wEqu (eV 1) (eC (.str "page")))) (sSeq (sSet 4 (eOp wAdd (eC (.int 1)) (eOp wMod (eOp wFdv (eV 2) (eC (.int 500))) (eC (.int 3)))))
  (sJn (sIf (cV (eOp wEqu (eOp wMod (eOp wFdv (eV 2) (eC (.int 1500))) (eC (.int 4))) (eC (.int 0)))) (sSet 4 (eOp wAdd (eC (.int 1)) (eOp wMod (eOp wFdv (eV 2) (eC (.int 6000))) (eC (.int 50))))) (sNx))
  (sRt (eTup (aCons (eV 1) (aCons (eCall f__law_bound (aCons (eV 2) (aNil))) (aCons (eV 4) (aNil)))))))) (sNx))
  (sSeq (sSet 3 (eCall f__law_key (aCons (eV 2) (aNil))))
  (sSeq (sIf (cV (eOp wEqu (eV 1) (eC (.str "put")))) (sRt (eTup (aCons (eV 1) (aCons (eV 3) (aCons (eCall f__law_value (aCons (eOp wFdv (eV 2) (eC (.int 500))) (aNil))) (aNil)))))) (sNx))
  (sSeq (sIf (cV (eOp wEqu (eV 1) (eC (.str "swap")))) (sRt (eTup (aCons (eV 1) (aCons (eV 3) (aCons (eCall f__law_value (aCons (eOp wFdv (eV 2) (eC (.int 500))) (aNil))) (aCons (eCall f__law_value (aCons (eOp wFdv (eV 2) (eC (.int 7000))) (aNil))) (aNil))))))) (sNx))
  (sRt (eTup (aCons (eV 1) (aCons (eV 3) (aNil)))))))))))
noncomputable def f__law_operation_S : { f : FW // f = f__law_operation_B } := Classical.choice ⟨⟨_, rfl⟩⟩
noncomputable def f__law_operation : FW := f__law_operation_S.1
theorem f__law_operation_eq : f__law_operation = f__law_operation_B := f__law_operation_S.2
def f_is_range_B : FW := fDef 2 2 (sSeq (sIf (cNot (cV (eCall f_is_bound (aCons (eV 0) (aNil))))) (sRt (eC (.bl false))) (sNx))
  (sRt (eOr (eOp wIs (eV 1) (eC .non)) (eAnd (eCall f_is_key (aCons (eV 1) (aNil))) (eOp wLt (eV 0) (eV 1))))))
noncomputable def f_is_range_S : { f : FW // f = f_is_range_B } := Classical.choice ⟨⟨_, rfl⟩⟩
noncomputable def f_is_range : FW := f_is_range_S.1
theorem f_is_range_eq : f_is_range = f_is_range_B := f_is_range_S.2
def f__is_pair_B : FW := fDef 1 1 (sRt (eAnd (eIsi .tup (eV 0)) (eAnd (eOp wEqu (eB bLen (aCons (eV 0) (aNil))) (eC (.int 2))) (eAnd (eCall f_is_key (aCons (eOp wIx (eV 0) (eC (.int 0))) (aNil))) (eCall f_is_value (aCons (eOp wIx (eV 0) (eC (.int 1))) (aNil)))))))
noncomputable def f__is_pair_S : { f : FW // f = f__is_pair_B } := Classical.choice ⟨⟨_, rfl⟩⟩
noncomputable def f__is_pair : FW := f__is_pair_S.1
theorem f__is_pair_eq : f__is_pair = f__is_pair_B := f__is_pair_S.2
def f_are_pairs_B : FW := fDef 1 3 (sSeq (sIf (cNot (cV (eIsi .tup (eV 0)))) (sRt (eC (.bl false))) (sNx))
  (sSeq (sSet 1 (eC (.str "")))
  (sSeq (sFor (iSq (eV 0)) (gN 2) (sSeq (sIf (cOr (cNot (cV (eCall f__is_pair (aCons (eV 2) (aNil))))) (cV (eOp wLe (eOp wIx (eV 2) (eC (.int 0))) (eV 1)))) (sRt (eC (.bl false))) (sNx))
  (sSet 1 (eOp wIx (eV 2) (eC (.int 0))))))
  (sRt (eC (.bl true))))))
noncomputable def f_are_pairs_S : { f : FW // f = f_are_pairs_B } := Classical.choice ⟨⟨_, rfl⟩⟩
noncomputable def f_are_pairs : FW := f_are_pairs_S.1
theorem f_are_pairs_eq : f_are_pairs = f_are_pairs_B := f_are_pairs_S.2
def f__is_word_alone_B : FW := fDef 1 1 (sRt (eOp wEqu (eB bLen (aCons (eV 0) (aNil))) (eC (.int 1))))
noncomputable def f__is_word_alone_S : { f : FW // f = f__is_word_alone_B } := Classical.choice ⟨⟨_, rfl⟩⟩
noncomputable def f__is_word_alone : FW := f__is_word_alone_S.1
theorem f__is_word_alone_eq : f__is_word_alone = f__is_word_alone_B := f__is_word_alone_S.2
def f__is_value_told_B : FW := fDef 1 1 (sRt (eAnd (eOp wEqu (eB bLen (aCons (eV 0) (aNil))) (eC (.int 2))) (eCall f_is_value (aCons (eOp wIx (eV 0) (eC (.int 1))) (aNil)))))
noncomputable def f__is_value_told_S : { f : FW // f = f__is_value_told_B } := Classical.choice ⟨⟨_, rfl⟩⟩
noncomputable def f__is_value_told : FW := f__is_value_told_S.1
theorem f__is_value_told_eq : f__is_value_told = f__is_value_told_B := f__is_value_told_S.2
def f__is_page_told_B : FW := fDef 1 4 (sSeq (sIf (cV (eOp wNeq (eB bLen (aCons (eV 0) (aNil))) (eC (.int 3)))) (sRt (eC (.bl false))) (sNx))
  (sSeq (sAsg (eV 0) (gT 3 (gsCons (gN 1) (gsCons (gN 2) (gsCons (gN 3) (gsNil))))))
  (sSeq (sIf (cOr (cNot (cV (eCall f_are_pairs (aCons (eV 2) (aNil))))) (cV (eOp wGt (eB bLen (aCons (eV 2) (aNil))) (eC (.int 50))))) (sRt (eC (.bl false))) (sNx))
  (sSeq (sIf (cAnd (cV (eOp wIsnt (eV 3) (eC .non))) (cNot (cV (eCall f_is_key (aCons (eV 3) (aNil)))))) (sRt (eC (.bl false))) (sNx))
  (sRt (eOr (eOp wEqu (eB bLen (aCons (eV 2) (aNil))) (eC (.int 0))) (eCall f_below (aCons (eOp wIx (eOp wIx (eV 2) (eUn wNeg (eC (.int 1)))) (eC (.int 0))) (aCons (eV 3) (aNil))))))))))
noncomputable def f__is_page_told_S : { f : FW // f = f__is_page_told_B } := Classical.choice ⟨⟨_, rfl⟩⟩
noncomputable def f__is_page_told : FW := f__is_page_told_S.1
theorem f__is_page_told_eq : f__is_page_told = f__is_page_told_B := f__is_page_told_S.2
def f_is_answer_B : FW := fDef 1 3 (sSeq (sSet 1 (eCall f_kind_of (aCons (eV 0) (aNil))))
  (sSeq (sIf (cV (eOp (wTin "ANSWERS" [("value", .fn "_is_value_told"), ("none", .fn "_is_word_alone"), ("done", .fn "_is_word_alone"), ("other", .fn "_is_value_told"), ("page", .fn "_is_page_told")] true) (eV 1) (eC (.fn "ANSWERS")))) (sRt (eC (.bl false))) (sNx))
  (sSeq (sSet 2 (eOp (wTix "ANSWERS" [("value", .fn "_is_value_told"), ("none", .fn "_is_word_alone"), ("done", .fn "_is_word_alone"), ("other", .fn "_is_value_told"), ("page", .fn "_is_page_told")]) (eC (.fn "ANSWERS")) (eV 1)))
  (sRt (eCl 2 [("_is_value_told", f__is_value_told), ("_is_word_alone", f__is_word_alone), ("_is_page_told", f__is_page_told)] (aCons (eV 0) (aNil)))))))
noncomputable def f_is_answer_S : { f : FW // f = f_is_answer_B } := Classical.choice ⟨⟨_, rfl⟩⟩
noncomputable def f_is_answer : FW := f_is_answer_S.1
theorem f_is_answer_eq : f_is_answer = f_is_answer_B := f_is_answer_S.2
def f_is_pairs_B : FW := fDef 3 5 (sSeq (sIf (cNot (cV (eCall f_are_pairs (aCons (eV 2) (aNil))))) (sRt (eC (.bl false))) (sNx))
  (sSeq (sFor (iSq (eV 2)) (gT 2 (gsCons (gN 3) (gsCons (gN 4) (gsNil)))) (sIf (cNot (cV (eCall f_contains (aCons (eV 0) (aCons (eV 1) (aCons (eV 3) (aNil))))))) (sRt (eC (.bl false))) (sNx)))
  (sRt (eC (.bl true)))))
noncomputable def f_is_pairs_S : { f : FW // f = f_is_pairs_B } := Classical.choice ⟨⟨_, rfl⟩⟩
noncomputable def f_is_pairs : FW := f_is_pairs_S.1
theorem f_is_pairs_eq : f_is_pairs = f_is_pairs_B := f_is_pairs_S.2
def f_is_number_B : FW := fDef 1 1 (sRt (eCall f_is_integer (aCons (eV 0) (aCons (eC (.int 1)) (aCons (eC (.int 1000000000000)) (aNil))))))
noncomputable def f_is_number_S : { f : FW // f = f_is_number_B } := Classical.choice ⟨⟨_, rfl⟩⟩
noncomputable def f_is_number : FW := f_is_number_S.1
theorem f_is_number_eq : f_is_number = f_is_number_B := f_is_number_S.2
def f__is_row_B : FW := fDef 1 4 (sSeq (sIf (cOr (cNot (cV (eIsi .tup (eV 0)))) (cV (eOp wNeq (eB bLen (aCons (eV 0) (aNil))) (eC (.int 3))))) (sRt (eC (.bl false))) (sNx))
  (sSeq (sAsg (eV 0) (gT 3 (gsCons (gN 1) (gsCons (gN 2) (gsCons (gN 3) (gsNil))))))
  (sRt (eAnd (eCall f_is_client (aCons (eV 1) (aNil))) (eAnd (eCall f_is_number (aCons (eV 2) (aNil))) (eCall f_is_answer (aCons (eV 3) (aNil))))))))
noncomputable def f__is_row_S : { f : FW // f = f__is_row_B } := Classical.choice ⟨⟨_, rfl⟩⟩
noncomputable def f__is_row : FW := f__is_row_S.1
theorem f__is_row_eq : f__is_row = f__is_row_B := f__is_row_S.2
def f_is_rows_B : FW := fDef 1 3 (sSeq (sIf (cNot (cV (eIsi .tup (eV 0)))) (sRt (eC (.bl false))) (sNx))
  (sSeq (sSet 1 (eC .non))
  (sSeq (sFor (iSq (eV 0)) (gN 2) (sSeq (sIf (cOr (cNot (cV (eCall f__is_row (aCons (eV 2) (aNil))))) (cAnd (cV (eOp wIsnt (eV 1) (eC .non))) (cV (eOp wLe (eOp wIx (eV 2) (eC (.int 0))) (eV 1))))) (sRt (eC (.bl false))) (sNx))
  (sSet 1 (eOp wIx (eV 2) (eC (.int 0))))))
  (sRt (eC (.bl true))))))
noncomputable def f_is_rows_S : { f : FW // f = f_is_rows_B } := Classical.choice ⟨⟨_, rfl⟩⟩
noncomputable def f_is_rows : FW := f_is_rows_S.1
theorem f_is_rows_eq : f_is_rows = f_is_rows_B := f_is_rows_S.2
def f_is_within_B : FW := fDef 3 3 (sRt (eCall f_contains (aCons (eV 1) (aCons (eV 2) (aCons (eCall f_place (aCons (eV 0) (aNil))) (aNil))))))
noncomputable def f_is_within_S : { f : FW // f = f_is_within_B } := Classical.choice ⟨⟨_, rfl⟩⟩
noncomputable def f_is_within : FW := f_is_within_S.1
theorem f_is_within_eq : f_is_within = f_is_within_B := f_is_within_S.2
def f__get_B : FW := fDef 3 3 (sSeq (sIf (cV (eOp wNin (eOp wIx (eV 1) (eC (.int 1))) (eV 0))) (sRt (eC (.tup [.str "none"]))) (sNx))
  (sRt (eTup (aCons (eC (.str "value")) (aCons (eOp wIx (eV 0) (eOp wIx (eV 1) (eC (.int 1)))) (aNil))))))
noncomputable def f__get_S : { f : FW // f = f__get_B } := Classical.choice ⟨⟨_, rfl⟩⟩
noncomputable def f__get : FW := f__get_S.1
theorem f__get_eq : f__get = f__get_B := f__get_S.2
def f__put_B : FW := fDef 3 3 (sSeq (sPut (eV 0) (eOp wIx (eV 1) (eC (.int 1))) (eOp wIx (eV 1) (eC (.int 2))))
  (sRt (eC (.tup [.str "done"]))))
noncomputable def f__put_S : { f : FW // f = f__put_B } := Classical.choice ⟨⟨_, rfl⟩⟩
noncomputable def f__put : FW := f__put_S.1
theorem f__put_eq : f__put = f__put_B := f__put_S.2
def f__drop_B : FW := fDef 3 3 (sSeq (sIf (cV (eOp wNin (eOp wIx (eV 1) (eC (.int 1))) (eV 0))) (sRt (eC (.tup [.str "none"]))) (sNx))
  (sSeq (sDel (eV 0) (eOp wIx (eV 1) (eC (.int 1))))
  (sRt (eC (.tup [.str "done"])))))
noncomputable def f__drop_S : { f : FW // f = f__drop_B } := Classical.choice ⟨⟨_, rfl⟩⟩
noncomputable def f__drop : FW := f__drop_S.1
theorem f__drop_eq : f__drop = f__drop_B := f__drop_S.2
def f__swap_B : FW := fDef 3 7 (sSeq (sAsg (eV 1) (gT 4 (gsCons (gN 3) (gsCons (gN 4) (gsCons (gN 5) (gsCons (gN 6) (gsNil)))))))
  (sSeq (sIf (cV (eOp wNin (eV 4) (eV 0))) (sRt (eC (.tup [.str "none"]))) (sNx))
  (sSeq (sIf (cV (eOp wNeq (eOp wIx (eV 0) (eV 4)) (eV 5))) (sRt (eTup (aCons (eC (.str "other")) (aCons (eOp wIx (eV 0) (eV 4)) (aNil))))) (sNx))
  (sSeq (sPut (eV 0) (eV 4) (eV 6))
  (sRt (eC (.tup [.str "done"])))))))
noncomputable def f__swap_S : { f : FW // f = f__swap_B } := Classical.choice ⟨⟨_, rfl⟩⟩
noncomputable def f__swap : FW := f__swap_S.1
theorem f__swap_eq : f__swap = f__swap_B := f__swap_S.2
def f__page_B : FW := fDef 3 9 (sSeq (sAsg (eV 1) (gT 3 (gsCons (gN 5) (gsCons (gN 6) (gsCons (gN 7) (gsNil))))))
  (sSeq (sSet 3 (eB bSrS (aCons (eLock (eLcV (iKy (eV 0)) [8] (gN 8) (cV (eOp wLe (eV 6) (eV 8))) (eV 8))) (aNil))))
  (sSeq (sSet 4 (eB bTup (aCons (eLcV (iSq (eSl (eV 3) foN (foS (eV 7)))) [8] (gN 8) cYes (eTup (aCons (eV 8) (aCons (eOp wIx (eV 0) (eV 8)) (aNil))))) (aNil))))
  (sSeq (sIf (cV (eOp wGt (eB bLen (aCons (eV 3) (aNil))) (eV 7))) (sRt (eTup (aCons (eC (.str "page")) (aCons (eV 4) (aCons (eOp wIx (eV 3) (eV 7)) (aNil)))))) (sNx))
  (sRt (eTup (aCons (eC (.str "page")) (aCons (eV 4) (aCons (eV 2) (aNil))))))))))
noncomputable def f__page_S : { f : FW // f = f__page_B } := Classical.choice ⟨⟨_, rfl⟩⟩
noncomputable def f__page : FW := f__page_S.1
theorem f__page_eq : f__page = f__page_B := f__page_S.2
def f_apply_B : FW := fDef 3 4 (sSeq (sSet 3 (eOp (wTix "ACTIONS" [("get", .fn "_get"), ("put", .fn "_put"), ("drop", .fn "_drop"), ("swap", .fn "_swap"), ("page", .fn "_page")]) (eC (.fn "ACTIONS")) (eOp wIx (eV 1) (eC (.int 0)))))
  (sRt (eCl 3 [("_get", f__get), ("_put", f__put), ("_drop", f__drop), ("_swap", f__swap), ("_page", f__page)] (aCons (eV 0) (aCons (eV 1) (aCons (eV 2) (aNil)))))))
noncomputable def f_apply_S : { f : FW // f = f_apply_B } := Classical.choice ⟨⟨_, rfl⟩⟩
noncomputable def f_apply : FW := f_apply_S.1
theorem f_apply_eq : f_apply = f_apply_B := f_apply_S.2
def f_Sessions___init___B : FW := fDef 1 1 (sFld ["Sessions"] (eV 0) "_last" (eDk))
noncomputable def f_Sessions___init___S : { f : FW // f = f_Sessions___init___B } := Classical.choice ⟨⟨_, rfl⟩⟩
noncomputable def f_Sessions___init__ : FW := f_Sessions___init___S.1
theorem f_Sessions___init___eq : f_Sessions___init__ = f_Sessions___init___B := f_Sessions___init___S.2
def f_Sessions_status_B : FW := fDef 3 4 (sSeq (sIf (cV (eOp wNin (eV 1) (eFld ["Sessions"] (eV 0) "_last"))) (sRt (eC (.str "new"))) (sNx))
  (sSeq (sSet 3 (eOp wIx (eOp wIx (eFld ["Sessions"] (eV 0) "_last") (eV 1)) (eC (.int 1))))
  (sSeq (sIf (cV (eOp wEqu (eV 2) (eV 3))) (sRt (eC (.str "again"))) (sNx))
  (sRt (eIf (cV (eOp wGt (eV 2) (eV 3))) (eC (.str "new")) (eC (.str "stale")))))))
noncomputable def f_Sessions_status_S : { f : FW // f = f_Sessions_status_B } := Classical.choice ⟨⟨_, rfl⟩⟩
noncomputable def f_Sessions_status : FW := f_Sessions_status_S.1
theorem f_Sessions_status_eq : f_Sessions_status = f_Sessions_status_B := f_Sessions_status_S.2
def f_Sessions_answer_B : FW := fDef 2 2 (sSeq (sIf (cV (eOp wNin (eV 1) (eFld ["Sessions"] (eV 0) "_last"))) (sRaise "BadShard") (sNx))
  (sRt (eOp wIx (eOp wIx (eFld ["Sessions"] (eV 0) "_last") (eV 1)) (eC (.int 2)))))
noncomputable def f_Sessions_answer_S : { f : FW // f = f_Sessions_answer_B } := Classical.choice ⟨⟨_, rfl⟩⟩
noncomputable def f_Sessions_answer : FW := f_Sessions_answer_S.1
theorem f_Sessions_answer_eq : f_Sessions_answer = f_Sessions_answer_B := f_Sessions_answer_S.2
def f_Sessions_remember_B : FW := fDef 4 4 (sSeq (sIf (cV (eOp wNeq (eMet "status" [("Sessions", f_Sessions_status)] (eV 0) (aCons (eV 1) (aCons (eV 2) (aNil)))) (eC (.str "new")))) (sRaise "BadShard") (sNx))
  (sPut (eFld ["Sessions"] (eV 0) "_last") (eV 1) (eTup (aCons (eV 1) (aCons (eV 2) (aCons (eV 3) (aNil)))))))
noncomputable def f_Sessions_remember_S : { f : FW // f = f_Sessions_remember_B } := Classical.choice ⟨⟨_, rfl⟩⟩
noncomputable def f_Sessions_remember : FW := f_Sessions_remember_S.1
theorem f_Sessions_remember_eq : f_Sessions_remember = f_Sessions_remember_B := f_Sessions_remember_S.2
def f_Sessions_rows_B : FW := fDef 1 2 (sRt (eB bTup (aCons (eLcV (iSq (eB bSdI (aCons (eFld ["Sessions"] (eV 0) "_last") (aNil)))) [1] (gN 1) cYes (eOp wIx (eFld ["Sessions"] (eV 0) "_last") (eV 1))) (aNil))))
noncomputable def f_Sessions_rows_S : { f : FW // f = f_Sessions_rows_B } := Classical.choice ⟨⟨_, rfl⟩⟩
noncomputable def f_Sessions_rows : FW := f_Sessions_rows_S.1
theorem f_Sessions_rows_eq : f_Sessions_rows = f_Sessions_rows_B := f_Sessions_rows_S.2
def f_Shard___init___B : FW := fDef 4 4 (sSeq (sIf (cOr (cNot (cV (eCall f_is_range (aCons (eV 1) (aCons (eV 2) (aNil)))))) (cNot (cV (eCall f_is_integer (aCons (eV 3) (aCons (eC (.int 1)) (aCons (eC (.int 1000000000000)) (aNil)))))))) (sRaise "BadShard") (sNx))
  (sSeq (sFld ["Shard"] (eV 0) "low" (eV 1))
  (sSeq (sFld ["Shard"] (eV 0) "high" (eV 2))
  (sSeq (sFld ["Shard"] (eV 0) "epoch" (eV 3))
  (sSeq (sFld ["Shard"] (eV 0) "_items" (eDk))
  (sFld ["Shard"] (eV 0) "_sessions" (eMak "Sessions" f_Sessions___init__ (aNil))))))))
noncomputable def f_Shard___init___S : { f : FW // f = f_Shard___init___B } := Classical.choice ⟨⟨_, rfl⟩⟩
noncomputable def f_Shard___init__ : FW := f_Shard___init___S.1
theorem f_Shard___init___eq : f_Shard___init__ = f_Shard___init___B := f_Shard___init___S.2
def f_Shard_has_B : FW := fDef 2 2 (sRt (eCall f_contains (aCons (eFld ["Shard"] (eV 0) "low") (aCons (eFld ["Shard"] (eV 0) "high") (aCons (eV 1) (aNil))))))
noncomputable def f_Shard_has_S : { f : FW // f = f_Shard_has_B } := Classical.choice ⟨⟨_, rfl⟩⟩
noncomputable def f_Shard_has : FW := f_Shard_has_S.1
theorem f_Shard_has_eq : f_Shard_has = f_Shard_has_B := f_Shard_has_S.2
def f_Shard_size_B : FW := fDef 1 1 (sRt (eB bLen (aCons (eFld ["Shard"] (eV 0) "_items") (aNil))))
noncomputable def f_Shard_size_S : { f : FW // f = f_Shard_size_B } := Classical.choice ⟨⟨_, rfl⟩⟩
noncomputable def f_Shard_size : FW := f_Shard_size_S.1
theorem f_Shard_size_eq : f_Shard_size = f_Shard_size_B := f_Shard_size_S.2
def f_Shard_status_B : FW := fDef 3 3 (sRt (eMet "status" [("Sessions", f_Sessions_status)] (eFld ["Shard"] (eV 0) "_sessions") (aCons (eV 1) (aCons (eV 2) (aNil)))))
noncomputable def f_Shard_status_S : { f : FW // f = f_Shard_status_B } := Classical.choice ⟨⟨_, rfl⟩⟩
noncomputable def f_Shard_status : FW := f_Shard_status_S.1
theorem f_Shard_status_eq : f_Shard_status = f_Shard_status_B := f_Shard_status_S.2
def f_Shard_answer_B : FW := fDef 2 2 (sRt (eMet "answer" [("Sessions", f_Sessions_answer)] (eFld ["Shard"] (eV 0) "_sessions") (aCons (eV 1) (aNil))))
noncomputable def f_Shard_answer_S : { f : FW // f = f_Shard_answer_B } := Classical.choice ⟨⟨_, rfl⟩⟩
noncomputable def f_Shard_answer : FW := f_Shard_answer_S.1
theorem f_Shard_answer_eq : f_Shard_answer = f_Shard_answer_B := f_Shard_answer_S.2
def f_Shard_serve_B : FW := fDef 4 5 (sSeq (sIf (cNot (cV (eCall f_is_within (aCons (eV 3) (aCons (eFld ["Shard"] (eV 0) "low") (aCons (eFld ["Shard"] (eV 0) "high") (aNil))))))) (sRaise "BadShard") (sNx))
  (sSeq (sSet 4 (eMet "status" [("Shard", f_Shard_status)] (eV 0) (aCons (eV 1) (aCons (eV 2) (aNil)))))
  (sSeq (sIf (cV (eOp wEqu (eV 4) (eC (.str "stale")))) (sRt (eTup (aCons (eV 4) (aNil)))) (sNx))
  (sJn (sIf (cV (eOp wEqu (eV 4) (eC (.str "new")))) (sEx (eMet "remember" [("Sessions", f_Sessions_remember)] (eFld ["Shard"] (eV 0) "_sessions") (aCons (eV 1) (aCons (eV 2) (aCons (eCall f_apply (aCons (eFld ["Shard"] (eV 0) "_items") (aCons (eV 3) (aCons (eFld ["Shard"] (eV 0) "high") (aNil))))) (aNil)))))) (sNx))
  (sRt (eTup (aCons (eV 4) (aCons (eMet "answer" [("Shard", f_Shard_answer)] (eV 0) (aCons (eV 1) (aNil))) (aNil)))))))))
noncomputable def f_Shard_serve_S : { f : FW // f = f_Shard_serve_B } := Classical.choice ⟨⟨_, rfl⟩⟩
noncomputable def f_Shard_serve : FW := f_Shard_serve_S.1
theorem f_Shard_serve_eq : f_Shard_serve = f_Shard_serve_B := f_Shard_serve_S.2
def f_Shard_content_B : FW := fDef 1 3 (sSeq (sSet 1 (eB bTup (aCons (eLcV (iSq (eB bSdS (aCons (eFld ["Shard"] (eV 0) "_items") (aNil)))) [2] (gN 2) cYes (eTup (aCons (eV 2) (aCons (eOp wIx (eFld ["Shard"] (eV 0) "_items") (eV 2)) (aNil))))) (aNil))))
  (sRt (eTup (aCons (eV 1) (aCons (eMet "rows" [("Sessions", f_Sessions_rows)] (eFld ["Shard"] (eV 0) "_sessions") (aNil)) (aNil))))))
noncomputable def f_Shard_content_S : { f : FW // f = f_Shard_content_B } := Classical.choice ⟨⟨_, rfl⟩⟩
noncomputable def f_Shard_content : FW := f_Shard_content_S.1
theorem f_Shard_content_eq : f_Shard_content = f_Shard_content_B := f_Shard_content_S.2
def f_made_B : FW := fDef 5 11 (sSeq (sSet 5 (eMak "Shard" f_Shard___init__ (aCons (eV 0) (aCons (eV 1) (aCons (eV 2) (aNil))))))
  (sSeq (sIf (cOr (cNot (cV (eCall f_is_pairs (aCons (eV 0) (aCons (eV 1) (aCons (eV 3) (aNil))))))) (cNot (cV (eCall f_is_rows (aCons (eV 4) (aNil)))))) (sRaise "BadShard") (sNx))
  (sSeq (sFld ["Shard"] (eV 5) "_items" (eDc (iSq (eV 3)) [9, 10] (gT 2 (gsCons (gN 9) (gsCons (gN 10) (gsNil)))) cYes (eV 9) (eV 10)))
  (sSeq (sFor (iSq (eV 4)) (gT 3 (gsCons (gN 6) (gsCons (gN 7) (gsCons (gN 8) (gsNil))))) (sEx (eMet "remember" [("Sessions", f_Sessions_remember)] (eFld ["Shard"] (eV 5) "_sessions") (aCons (eV 6) (aCons (eV 7) (aCons (eV 8) (aNil)))))))
  (sRt (eV 5))))))
noncomputable def f_made_S : { f : FW // f = f_made_B } := Classical.choice ⟨⟨_, rfl⟩⟩
noncomputable def f_made : FW := f_made_S.1
theorem f_made_eq : f_made = f_made_B := f_made_S.2
def f_Sessions_merged_2_B : FW := fDef 2 2 (sEx (eCall f__wall (aCons (eC (.int 0)) (aNil))))
noncomputable def f_Sessions_merged_2_S : { f : FW // f = f_Sessions_merged_2_B } := Classical.choice ⟨⟨_, rfl⟩⟩
noncomputable def f_Sessions_merged_2 : FW := f_Sessions_merged_2_S.1
theorem f_Sessions_merged_2_eq : f_Sessions_merged_2 = f_Sessions_merged_2_B := f_Sessions_merged_2_S.2
def f_Sessions_clone_2_B : FW := fDef 1 1 (sEx (eCall f__wall (aCons (eC (.int 1)) (aNil))))
noncomputable def f_Sessions_clone_2_S : { f : FW // f = f_Sessions_clone_2_B } := Classical.choice ⟨⟨_, rfl⟩⟩
noncomputable def f_Sessions_clone_2 : FW := f_Sessions_clone_2_S.1
theorem f_Sessions_clone_2_eq : f_Sessions_clone_2 = f_Sessions_clone_2_B := f_Sessions_clone_2_S.2
def f_Shard_middle_2_B : FW := fDef 1 1 (sEx (eCall f__wall (aCons (eC (.int 2)) (aNil))))
noncomputable def f_Shard_middle_2_S : { f : FW // f = f_Shard_middle_2_B } := Classical.choice ⟨⟨_, rfl⟩⟩
noncomputable def f_Shard_middle_2 : FW := f_Shard_middle_2_S.1
theorem f_Shard_middle_2_eq : f_Shard_middle_2 = f_Shard_middle_2_B := f_Shard_middle_2_S.2
def f_Shard_split_2_B : FW := fDef 2 2 (sEx (eCall f__wall (aCons (eC (.int 3)) (aNil))))
noncomputable def f_Shard_split_2_S : { f : FW // f = f_Shard_split_2_B } := Classical.choice ⟨⟨_, rfl⟩⟩
noncomputable def f_Shard_split_2 : FW := f_Shard_split_2_S.1
theorem f_Shard_split_2_eq : f_Shard_split_2 = f_Shard_split_2_B := f_Shard_split_2_S.2
def f_Shard_join_2_B : FW := fDef 2 2 (sEx (eCall f__wall (aCons (eC (.int 4)) (aNil))))
noncomputable def f_Shard_join_2_S : { f : FW // f = f_Shard_join_2_B } := Classical.choice ⟨⟨_, rfl⟩⟩
noncomputable def f_Shard_join_2 : FW := f_Shard_join_2_S.1
theorem f_Shard_join_2_eq : f_Shard_join_2 = f_Shard_join_2_B := f_Shard_join_2_S.2
def f_Shard_clone_2_B : FW := fDef 1 1 (sEx (eCall f__wall (aCons (eC (.int 5)) (aNil))))
noncomputable def f_Shard_clone_2_S : { f : FW // f = f_Shard_clone_2_B } := Classical.choice ⟨⟨_, rfl⟩⟩
noncomputable def f_Shard_clone_2 : FW := f_Shard_clone_2_S.1
theorem f_Shard_clone_2_eq : f_Shard_clone_2 = f_Shard_clone_2_B := f_Shard_clone_2_S.2
def f__law_range_2_B : FW := fDef 1 3 (sSeq (sSet 1 (eCall f__law_bound (aCons (eV 0) (aNil))))
  (sSeq (sSet 2 (eCall f__law_bound (aCons (eOp wFdv (eV 0) (eC (.int 1000))) (aNil))))
  (sSeq (sIf (cOr (cV (eOp wEqu (eV 1) (eV 2))) (cV (eOp wEqu (eOp wMod (eOp wFdv (eV 0) (eC (.int 7))) (eC (.int 5))) (eC (.int 0))))) (sRt (eTup (aCons (eV 1) (aCons (eC .non) (aNil))))) (sNx))
  (sRt (eTup (aCons (eB bMin (aCons (eV 1) (aCons (eV 2) (aNil)))) (aCons (eB bMax (aCons (eV 1) (aCons (eV 2) (aNil)))) (aNil))))))))
noncomputable def f__law_range_2_S : { f : FW // f = f__law_range_2_B } := Classical.choice ⟨⟨_, rfl⟩⟩
noncomputable def f__law_range_2 : FW := f__law_range_2_S.1
theorem f__law_range_2_eq : f__law_range_2 = f__law_range_2_B := f__law_range_2_S.2
def f__law_filled_B : FW := fDef 5 9 (sSeq (sSet 5 (eMak "Shard" f_Shard___init__ (aCons (eV 2) (aCons (eV 3) (aCons (eV 4) (aNil))))))
  (sSeq (sFor (iR2 (aCons (eV 1) (aCons (eB bMin (aCons (eB bLen (aCons (eV 0) (aNil))) (aCons (eOp wAdd (eV 1) (eC (.int 20))) (aNil)))) (aNil)))) (gN 6) (sSeq (sSet 7 (eCall f__law_rich (aCons (eOp wIx (eV 0) (eV 6)) (aCons (eV 6) (aNil)))))
  (sSeq (sSet 8 (eCall f__law_key (aCons (eOp wFdv (eV 7) (eC (.int 9))) (aNil))))
  (sJn (sIf (cNot (cV (eMet "has" [("Shard", f_Shard_has)] (eV 5) (aCons (eV 8) (aNil))))) (sSet 8 (eIf (cV (eOp wNeq (eV 2) (eC (.str "")))) (eV 2) (eC (.str "a")))) (sNx))
  (sIf (cV (eMet "has" [("Shard", f_Shard_has)] (eV 5) (aCons (eV 8) (aNil)))) (sEx (eMet "serve" [("Shard", f_Shard_serve)] (eV 5) (aCons (eOp wSub (eUn wNeg (eC (.int 1))) (eOp wMod (eV 7) (eC (.int 4)))) (aCons (eOp wAdd (eC (.int 1)) (eV 6)) (aCons (eTup (aCons (eC (.str "put")) (aCons (eV 8) (aCons (eCall f__law_value (aCons (eOp wFdv (eV 7) (eC (.int 900))) (aNil))) (aNil))))) (aNil)))))) (sNx))))))
  (sRt (eV 5))))
noncomputable def f__law_filled_S : { f : FW // f = f__law_filled_B } := Classical.choice ⟨⟨_, rfl⟩⟩
noncomputable def f__law_filled : FW := f__law_filled_S.1
theorem f__law_filled_eq : f__law_filled = f__law_filled_B := f__law_filled_S.2
def f__law_spoilt_B : FW := fDef 2 6 (sSeq (sSet 2 (eOp wMod (eV 1) (eC (.int 14))))
  (sSeq (sSet 3 (eOp wFdv (eV 1) (eC (.int 14))))
  (sSeq (sSet 4 (eOp wIx (eLV (aCons (eC .non) (aCons (eC (.int 0)) (aCons (eUn wNeg (eC (.int 1))) (aCons (eC (.bl true)) (aCons (eC (.str "A")) (aCons (eTup (aNil)) (aCons (eLV (aNil)) (aCons (eTup (aCons (eC (.str "a")) (aNil))) (aCons (eOp wAdd (eOp wPow (eC (.int 10)) (eC (.int 12))) (eC (.int 1))) (aCons (eC (.str "abcdefghi")) (aNil)))))))))))) (eOp wMod (eV 3) (eC (.int 10)))))
  (sSeq (sIf (cV (eOp wLt (eV 2) (eC (.int 5)))) (sRt (eOp wAdd (eOp wAdd (eSl (eV 0) foN (foS (eV 2))) (eLV (aCons (eV 4) (aNil)))) (eSl (eV 0) (foS (eOp wAdd (eV 2) (eC (.int 1)))) foN))) (sNx))
  (sSeq (sIf (cV (eOp wEqu (eV 2) (eC (.int 5)))) (sRt (eOp wAdd (eSl (eV 0) foN (foS (eC (.int 3)))) (eLV (aCons (eOp wAdd (eOp wIx (eV 0) (eC (.int 3))) (eSl (eOp wIx (eV 0) (eC (.int 3))) (foS (eUn wNeg (eC (.int 1)))) foN)) (aCons (eOp wIx (eV 0) (eC (.int 4))) (aNil)))))) (sNx))
  (sSeq (sIf (cV (eOp wEqu (eV 2) (eC (.int 6)))) (sRt (eOp wAdd (eSl (eV 0) foN (foS (eC (.int 3)))) (eLV (aCons (eRev (eOp wIx (eV 0) (eC (.int 3)))) (aCons (eOp wIx (eV 0) (eC (.int 4))) (aNil)))))) (sNx))
  (sSeq (sIf (cV (eOp wEqu (eV 2) (eC (.int 7)))) (sRt (eOp wAdd (eSl (eV 0) foN (foS (eC (.int 4)))) (eLV (aCons (eOp wAdd (eOp wIx (eV 0) (eC (.int 4))) (eSl (eOp wIx (eV 0) (eC (.int 4))) foN (foS (eC (.int 1))))) (aNil))))) (sNx))
  (sSeq (sIf (cV (eOp wEqu (eV 2) (eC (.int 8)))) (sRt (eOp wAdd (eSl (eV 0) foN (foS (eC (.int 4)))) (eLV (aCons (eRev (eOp wIx (eV 0) (eC (.int 4)))) (aNil))))) (sNx))
  (sSeq (sIf (cV (eOp wEqu (eV 2) (eC (.int 9)))) (sRt (eOp wAdd (eSl (eV 0) foN (foS (eC (.int 3)))) (eLV (aCons (eB bLsV (aCons (eOp wIx (eV 0) (eC (.int 3))) (aNil))) (aCons (eOp wIx (eV 0) (eC (.int 4))) (aNil)))))) (sNx))
  (sSeq (sIf (cAnd (cV (eOp wEqu (eV 2) (eC (.int 12)))) (cV (eOp wGt (eB bLen (aCons (eOp wIx (eV 0) (eC (.int 3))) (aNil))) (eC (.int 0))))) (sSeq (sSet 5 (eLV (aCons (eTup (aCons (eC (.str "A")) (aCons (eC (.str "x")) (aNil)))) (aCons (eTup (aCons (eOp wIx (eOp wIx (eOp wIx (eV 0) (eC (.int 3))) (eC (.int 0))) (eC (.int 0))) (aCons (eOp wMul (eC (.str "x")) (eC (.int 41))) (aNil)))) (aCons (eTup (aCons (eOp wIx (eOp wIx (eOp wIx (eV 0) (eC (.int 3))) (eC (.int 0))) (eC (.int 0))) (aCons (eC (.int 7)) (aNil)))) (aCons (eTup (aCons (eOp wIx (eOp wIx (eOp wIx (eV 0) (eC (.int 3))) (eC (.int 0))) (eC (.int 0))) (aNil))) (aCons (eLV (aCons (eOp wIx (eOp wIx (eOp wIx (eV 0) (eC (.int 3))) (eC (.int 0))) (eC (.int 0))) (aCons (eC (.str "x")) (aNil)))) (aNil))))))))
  (sRt (eOp wAdd (eSl (eV 0) foN (foS (eC (.int 3)))) (eLV (aCons (eOp wAdd (eTup (aCons (eOp wIx (eV 5) (eOp wMod (eV 3) (eC (.int 5)))) (aNil))) (eSl (eOp wIx (eV 0) (eC (.int 3))) (foS (eC (.int 1))) foN)) (aCons (eOp wIx (eV 0) (eC (.int 4))) (aNil))))))) (sNx))
  (sSeq (sIf (cAnd (cV (eOp wEqu (eV 2) (eC (.int 13)))) (cV (eOp wGt (eB bLen (aCons (eOp wIx (eV 0) (eC (.int 4))) (aNil))) (eC (.int 0))))) (sSeq (sSet 5 (eLV (aCons (eTup (aCons (eC (.int 5)) (aCons (eC (.int 1)) (aCons (eTup (aCons (eC (.str "done")) (aNil))) (aNil))))) (aCons (eTup (aCons (eUn wNeg (eC (.int 101))) (aCons (eC (.int 1)) (aCons (eTup (aCons (eC (.str "done")) (aNil))) (aNil))))) (aCons (eTup (aCons (eUn wNeg (eC (.int 100))) (aCons (eC (.int 0)) (aCons (eTup (aCons (eC (.str "done")) (aNil))) (aNil))))) (aCons (eTup (aCons (eUn wNeg (eC (.int 100))) (aCons (eOp wAdd (eOp wPow (eC (.int 10)) (eC (.int 12))) (eC (.int 1))) (aCons (eTup (aCons (eC (.str "done")) (aNil))) (aNil))))) (aCons (eTup (aCons (eUn wNeg (eC (.int 100))) (aCons (eC (.int 1)) (aCons (eC (.str "done")) (aNil))))) (aNil))))))))
  (sSeq (sSet 5 (eOp wAdd (eV 5) (eLV (aCons (eTup (aCons (eUn wNeg (eC (.int 100))) (aCons (eC (.int 1)) (aCons (eTup (aCons (eC (.str "done")) (aCons (eC (.int 1)) (aNil)))) (aNil))))) (aCons (eTup (aCons (eUn wNeg (eC (.int 100))) (aCons (eC (.bl true)) (aCons (eTup (aCons (eC (.str "done")) (aNil))) (aNil))))) (aCons (eTup (aCons (eUn wNeg (eC (.int 100))) (aCons (eC (.int 1)) (aNil)))) (aNil)))))))
  (sRt (eOp wAdd (eSl (eV 0) foN (foS (eC (.int 4)))) (eLV (aCons (eOp wAdd (eTup (aCons (eOp wIx (eV 5) (eOp wMod (eV 3) (eC (.int 8)))) (aNil))) (eOp wIx (eV 0) (eC (.int 4)))) (aNil))))))) (sNx))
  (sSeq (sIf (cAnd (cV (eOp wEqu (eV 2) (eC (.int 10)))) (cV (eOp wGt (eB bLen (aCons (eOp wIx (eV 0) (eC (.int 3))) (aNil))) (eC (.int 0))))) (sRt (eOp wAdd (eLV (aCons (eOp wAdd (eOp wIx (eOp wIx (eOp wIx (eV 0) (eC (.int 3))) (eC (.int 0))) (eC (.int 0))) (eSl (eC (.str "a")) foN (foS (eOp wSub (eC (.int 8)) (eB bLen (aCons (eOp wIx (eOp wIx (eOp wIx (eV 0) (eC (.int 3))) (eC (.int 0))) (eC (.int 0))) (aNil))))))) (aNil))) (eSl (eV 0) (foS (eC (.int 1))) foN))) (sNx))
  (sRt (eV 0))))))))))))))
noncomputable def f__law_spoilt_S : { f : FW // f = f__law_spoilt_B } := Classical.choice ⟨⟨_, rfl⟩⟩
noncomputable def f__law_spoilt : FW := f__law_spoilt_S.1
theorem f__law_spoilt_eq : f__law_spoilt = f__law_spoilt_B := f__law_spoilt_S.2
def f__law_is_bound_B : FW := fDef 1 2 (sSeq (sIf (cOr (cNot (cV (eIsi .str (eV 0)))) (cV (eOp wGt (eB bLen (aCons (eV 0) (aNil))) (eC (.int 8))))) (sRt (eC (.bl false))) (sNx))
  (sRt (eB bAll (aCons (eLcV (iSq (eV 0)) [1] (gN 1) cYes (eOp wIn (eV 1) (eC (.str "abcdefghijklmnopqrstuvwxyz")))) (aNil)))))
noncomputable def f__law_is_bound_S : { f : FW // f = f__law_is_bound_B } := Classical.choice ⟨⟨_, rfl⟩⟩
noncomputable def f__law_is_bound : FW := f__law_is_bound_S.1
theorem f__law_is_bound_eq : f__law_is_bound = f__law_is_bound_B := f__law_is_bound_S.2
def f__law_rises_B : FW := fDef 1 2 (sRt (eB bAll (aCons (eLcV (iR2 (aCons (eC (.int 1)) (aCons (eB bLen (aCons (eV 0) (aNil))) (aNil)))) [1] (gN 1) cYes (eOp wLt (eOp wIx (eOp wIx (eV 0) (eOp wSub (eV 1) (eC (.int 1)))) (eC (.int 0))) (eOp wIx (eOp wIx (eV 0) (eV 1)) (eC (.int 0))))) (aNil))))
noncomputable def f__law_rises_S : { f : FW // f = f__law_rises_B } := Classical.choice ⟨⟨_, rfl⟩⟩
noncomputable def f__law_rises : FW := f__law_rises_S.1
theorem f__law_rises_eq : f__law_rises = f__law_rises_B := f__law_rises_S.2
def f__law_right_B : FW := fDef 3 8 (sSeq (sPar3 5 6 7 (aCons (eOp wIx (eV 0) (eC (.int 0))) (aCons (eOp wIx (eV 0) (eC (.int 1))) (aCons (eOp wIx (eV 0) (eC (.int 2))) (aNil)))))
  (sSeq (sIf (cOr (cNot (cV (eCall f__law_is_bound (aCons (eV 5) (aNil))))) (cAnd (cV (eOp wIsnt (eV 6) (eC .non))) (cOr (cNot (cV (eCall f__law_is_bound (aCons (eV 6) (aNil))))) (cV (eOp wGe (eV 5) (eV 6)))))) (sRt (eTup (aCons (eC (.bl false)) (aCons (eC (.bl false)) (aNil))))) (sNx))
  (sSeq (sIf (cOr (cNot (cV (eIsi .int (eV 7)))) (cOr (cV (eIsi .bl (eV 7))) (cOr (cV (eOp wLt (eV 7) (eC (.int 1)))) (cV (eOp wGt (eV 7) (eOp wPow (eC (.int 10)) (eC (.int 12)))))))) (sRt (eTup (aCons (eC (.bl false)) (aCons (eC (.bl false)) (aNil))))) (sNx))
  (sSeq (sIf (cOr (cNot (cV (eIsi .tup (eOp wIx (eV 0) (eC (.int 3)))))) (cNot (cV (eIsi .tup (eOp wIx (eV 0) (eC (.int 4))))))) (sRt (eTup (aCons (eC (.bl true)) (aCons (eC (.bl false)) (aNil))))) (sNx))
  (sSeq (sFor (iSq (eOp wIx (eV 0) (eC (.int 3)))) (gN 3) (sIf (cOr (cV (eOp wNin (eV 3) (eV 1))) (cOr (cV (eOp wLt (eOp wIx (eV 3) (eC (.int 0))) (eV 5))) (cAnd (cV (eOp wIsnt (eV 6) (eC .non))) (cV (eOp wGe (eOp wIx (eV 3) (eC (.int 0))) (eV 6)))))) (sRt (eTup (aCons (eC (.bl true)) (aCons (eC (.bl false)) (aNil))))) (sNx)))
  (sSeq (sFor (iSq (eOp wIx (eV 0) (eC (.int 4)))) (gN 4) (sIf (cV (eOp wNin (eV 4) (eV 2))) (sRt (eTup (aCons (eC (.bl true)) (aCons (eC (.bl false)) (aNil))))) (sNx)))
  (sRt (eTup (aCons (eC (.bl true)) (aCons (eAnd (eCall f__law_rises (aCons (eOp wIx (eV 0) (eC (.int 3))) (aNil))) (eCall f__law_rises (aCons (eOp wIx (eV 0) (eC (.int 4))) (aNil)))) (aNil)))))))))))
noncomputable def f__law_right_S : { f : FW // f = f__law_right_B } := Classical.choice ⟨⟨_, rfl⟩⟩
noncomputable def f__law_right : FW := f__law_right_S.1
theorem f__law_right_eq : f__law_right = f__law_right_B := f__law_right_S.2
def f__law_made_2_B : FW := fDef 2 2 (sTry ["TableError", "BadOperation", "BadShard"] (sSeq (sIf (cV (eV 1)) (sRt (eCall f_made (aCons (eOp wIx (eV 0) (eC (.int 0))) (aCons (eOp wIx (eV 0) (eC (.int 1))) (aCons (eOp wIx (eV 0) (eC (.int 2))) (aCons (eOp wIx (eV 0) (eC (.int 3))) (aCons (eOp wIx (eV 0) (eC (.int 4))) (aNil)))))))) (sNx))
  (sRt (eMak "Shard" f_Shard___init__ (aCons (eOp wIx (eV 0) (eC (.int 0))) (aCons (eOp wIx (eV 0) (eC (.int 1))) (aCons (eOp wIx (eV 0) (eC (.int 2))) (aNil))))))) [(["BadShard"], sRt (eC .non))])
noncomputable def f__law_made_2_S : { f : FW // f = f__law_made_2_B } := Classical.choice ⟨⟨_, rfl⟩⟩
noncomputable def f__law_made_2 : FW := f__law_made_2_S.1
theorem f__law_made_2_eq : f__law_made_2 = f__law_made_2_B := f__law_made_2_S.2
def f_law_13_B : FW := fDef 1 15 (sSeq (sAsg (eCall f__law_range_2 (aCons (eCall f__law_rich (aCons (eCall f__law_cell_2 (aCons (eV 0) (aCons (eC (.int 0)) (aNil)))) (aCons (eC (.int 0)) (aNil)))) (aNil))) (gT 2 (gsCons (gN 8) (gsCons (gN 9) (gsNil)))))
  (sSeq (sSet 1 (eOp wAdd (eC (.int 1)) (eOp wMod (eCall f__law_cell_2 (aCons (eV 0) (aCons (eC (.int 1)) (aNil)))) (eC (.int 1000)))))
  (sSeq (sSet 2 (eCall f__law_filled (aCons (eV 0) (aCons (eC (.int 3)) (aCons (eV 8) (aCons (eV 9) (aCons (eV 1) (aNil))))))))
  (sSeq (sAsg (eMet "content" [("Shard", f_Shard_content)] (eV 2) (aNil)) (gT 2 (gsCons (gN 10) (gsCons (gN 11) (gsNil)))))
  (sSeq (sSet 3 (eLV (aCons (eV 8) (aCons (eV 9) (aCons (eV 1) (aCons (eV 10) (aCons (eV 11) (aNil))))))))
  (sJn (sIf (cV (eOp wGt (eOp wMod (eCall f__law_cell_2 (aCons (eV 0) (aCons (eC (.int 2)) (aNil)))) (eC (.int 3))) (eC (.int 0)))) (sSet 3 (eCall f__law_spoilt (aCons (eV 3) (aCons (eCall f__law_rich (aCons (eCall f__law_cell_2 (aCons (eV 0) (aCons (eC (.int 2)) (aNil)))) (aCons (eC (.int 2)) (aNil)))) (aNil))))) (sNx))
  (sSeq (sAsg (eCall f__law_right (aCons (eV 3) (aCons (eV 10) (aCons (eV 11) (aNil))))) (gT 2 (gsCons (gN 12) (gsCons (gN 13) (gsNil)))))
  (sSeq (sSet 4 (eCall f__law_made_2 (aCons (eV 3) (aCons (eC (.bl false)) (aNil)))))
  (sSeq (sIf (cOr (cV (eOp wNeq (eOp wIsnt (eV 4) (eC .non)) (eV 12))) (cAnd (cV (eV 12)) (cV (eOp wNeq (eMet "content" [("Shard", f_Shard_content)] (eV 4) (aNil)) (eTup (aCons (eTup (aNil)) (aCons (eTup (aNil)) (aNil)))))))) (sRt (eC (.bl false))) (sNx))
  (sSeq (sSet 5 (eCall f__law_made_2 (aCons (eV 3) (aCons (eC (.bl true)) (aNil)))))
  (sSeq (sIf (cOr (cNot (cV (eV 13))) (cV (eOp wIs (eV 5) (eC .non)))) (sRt (eAnd (eOp wIs (eV 5) (eC .non)) (eNot (eV 13)))) (sNx))
  (sSeq (sIf (cOr (cV (eOp wNeq (eMet "content" [("Shard", f_Shard_content)] (eV 5) (aNil)) (eTup (aCons (eOp wIx (eV 3) (eC (.int 3))) (aCons (eOp wIx (eV 3) (eC (.int 4))) (aNil)))))) (cV (eOp wNeq (eLV (aCons (eFld ["Shard"] (eV 5) "low") (aCons (eFld ["Shard"] (eV 5) "high") (aCons (eFld ["Shard"] (eV 5) "epoch") (aNil))))) (eSl (eV 3) foN (foS (eC (.int 3))))))) (sRt (eC (.bl false))) (sNx))
  (sSeq (sSet 6 (eCall f__law_made_2 (aCons (eV 3) (aCons (eC (.bl true)) (aNil)))))
  (sSeq (sFor (iR1 (aCons (eB bMin (aCons (eC (.int 10)) (aCons (eB bLen (aCons (eV 0) (aNil))) (aNil)))) (aNil))) (gN 7) (sSeq (sSet 14 (eCall f__law_operation (aCons (eCall f__law_rich (aCons (eOp wIx (eV 0) (eV 7)) (aCons (eOp wAdd (eC (.int 60)) (eV 7)) (aNil)))) (aNil))))
  (sIf (cV (eMet "has" [("Shard", f_Shard_has)] (eV 5) (aCons (eOp wIx (eV 14) (eC (.int 1))) (aNil)))) (sIf (cV (eOp wNeq (eMet "serve" [("Shard", f_Shard_serve)] (eV 5) (aCons (eUn wNeg (eC (.int 2))) (aCons (eOp wAdd (eC (.int 90)) (eOp wFdv (eV 7) (eC (.int 2)))) (aCons (eV 14) (aNil))))) (eMet "serve" [("Shard", f_Shard_serve)] (eV 6) (aCons (eUn wNeg (eC (.int 2))) (aCons (eOp wAdd (eC (.int 90)) (eOp wFdv (eV 7) (eC (.int 2)))) (aCons (eV 14) (aNil))))))) (sRt (eC (.bl false))) (sNx)) (sNx))))
  (sSeq (sIf (cOr (cV (eOp wNeq (eSl (eV 3) foN (foS (eC (.int 3)))) (eLV (aCons (eV 8) (aCons (eV 9) (aCons (eV 1) (aNil))))))) (cV (eOp wNeq (eTup (aCons (eOp wIx (eV 3) (eC (.int 3))) (aCons (eOp wIx (eV 3) (eC (.int 4))) (aNil)))) (eTup (aCons (eV 10) (aCons (eV 11) (aNil))))))) (sRt (eC (.bl true))) (sNx))
  (sSeq (sFor (iR1 (aCons (eB bMin (aCons (eC (.int 10)) (aCons (eB bLen (aCons (eV 0) (aNil))) (aNil)))) (aNil))) (gN 7) (sSeq (sSet 14 (eCall f__law_operation (aCons (eCall f__law_rich (aCons (eOp wIx (eV 0) (eV 7)) (aCons (eOp wAdd (eC (.int 60)) (eV 7)) (aNil)))) (aNil))))
  (sIf (cV (eMet "has" [("Shard", f_Shard_has)] (eV 2) (aCons (eOp wIx (eV 14) (eC (.int 1))) (aNil)))) (sEx (eMet "serve" [("Shard", f_Shard_serve)] (eV 2) (aCons (eUn wNeg (eC (.int 2))) (aCons (eOp wAdd (eC (.int 90)) (eOp wFdv (eV 7) (eC (.int 2)))) (aCons (eV 14) (aNil)))))) (sNx))))
  (sRt (eOp wEqu (eMet "content" [("Shard", f_Shard_content)] (eV 2) (aNil)) (eMet "content" [("Shard", f_Shard_content)] (eV 5) (aNil))))))))))))))))))))
noncomputable def f_law_13_S : { f : FW // f = f_law_13_B } := Classical.choice ⟨⟨_, rfl⟩⟩
noncomputable def f_law_13 : FW := f_law_13_S.1
theorem f_law_13_eq : f_law_13 = f_law_13_B := f_law_13_S.2
end Q
namespace K26
open PySem PySem.Spec PyProof.Rows L2 Evl Q
section
variable {P : Program} {w : World} {K : Frag} {mg : Str → Option Value} {base : Heap}
theorem sc__wall : FnScope ["k"] ["k"] (defScope s__wall) := ⟨rfl, rfl, rfl, by decide +kernel, rfl, by decide +kernel, by decide +kernel⟩
theorem ok__wall {f : Addr} {fd : FuncData} (F : FnM K "_wall" "_wall" s__wall f fd)  :
    FnOk P w K mg base (L2N.CX P w) 1 f fd ["k"] (spF K f__wall) := by
  rw [f__wall_eq]
  exact fn_w F sc__wall (by decide) fun cdv A outer s H E hr tk po pa => (qss_one (qs_while po (qt_val qe_bl) (qss_one qs_pass)))
theorem sc_is_key : FnScope ["value", "character"] ["value"] (defScope s_is_key) := ⟨rfl, rfl, rfl, by decide +kernel, rfl, by decide +kernel, by decide +kernel⟩
theorem ok_is_key {f : Addr} {fd : FuncData} (F : FnM K "is_key" "is_key" s_is_key f fd) (z_len : mg "len" = none) (c_MOST_KEY : ∃ t, mg "MOST_KEY" = some (.int 8 t)) (z_isinstance : mg "isinstance" = none) (z_str : mg "str" = none) :
    FnOk P w K mg base (L2N.CX P w) 1 f fd ["value"] (spF K f_is_key) := by
  rw [f_is_key_eq]
  exact fn_w F sc_is_key (by decide) fun cdv A outer s H E hr tk po pa => (qss_cons (qs_if (QW.qt (qw_or (qt_not (qt_val (qe_isi .str (by rfl) z_isinstance (by rfl) z_str (by decide +kernel) (qv 0)))) (qw_or1 (qt_not (qt_chain opU_le opU_le qe_int (qe_b cb_len (by rfl) z_len (by decide +kernel) (qa_cons (qv 0) qa_nil)) (qe_gint (by rfl) c_MOST_KEY)))))) (qss_one (qs_ret qe_bl)) qss_nil)
      (qss_cons (qs_for po (by rfl) (qi_seq (qv 0)) (qg_name (i := 1) sc_is_key.nd rfl (Or.inl rfl)) (qss_one (qs_if (qt_not (qt_chain opU_le opU_le qe_str (qv 1) qe_str)) (qss_one (qs_ret qe_bl)) qss_nil)))
      (qss_one (qs_ret qe_bl))))
theorem sc_is_bound : FnScope ["value"] ["value"] (defScope s_is_bound) := ⟨rfl, rfl, rfl, by decide +kernel, rfl, by decide +kernel, by decide +kernel⟩
theorem ok_is_bound {f : Addr} {fd : FuncData} (F : FnM K "is_bound" "is_bound" s_is_bound f fd) (z_isinstance : mg "isinstance" = none) (z_str : mg "str" = none) (D_is_key : DefQ P w K mg base 1 "is_key" ["value"] f_is_key) :
    FnOk P w K mg base (L2N.CX P w) 2 f fd ["value"] (spF K f_is_bound) := by
  rw [f_is_bound_eq]
  exact fn_w F sc_is_bound (by decide) fun cdv A outer s H E hr tk po pa => (qss_one (qs_ret (qe_or (qe_call tk.px D_is_key (hr.mono (by decide)) (by rfl) (qa_cons (qv 0) qa_nil)) (qe_one (qe_and (qe_isi .str (by rfl) z_isinstance (by rfl) z_str (by decide +kernel) (qv 0)) (qe_one (qe_cmp (opU_equ hr.units) (qv 0) qe_str (nomark _))))))))
theorem sc_is_range : FnScope ["low", "high"] ["low", "high"] (defScope s_is_range) := ⟨rfl, rfl, rfl, by decide +kernel, rfl, by decide +kernel, by decide +kernel⟩
theorem ok_is_range {f : Addr} {fd : FuncData} (F : FnM K "is_range" "is_range" s_is_range f fd) (D_is_bound : DefQ P w K mg base 2 "is_bound" ["value"] f_is_bound) (D_is_key : DefQ P w K mg base 1 "is_key" ["value"] f_is_key) :
    FnOk P w K mg base (L2N.CX P w) 3 f fd ["low", "high"] (spF K f_is_range) := by
  rw [f_is_range_eq]
  exact fn_w F sc_is_range (by decide) fun cdv A outer s H E hr tk po pa => (qss_cons (qs_if (qt_not (qt_val (qe_call tk.px D_is_bound (hr.mono (by decide)) (by rfl) (qa_cons (qv 0) qa_nil)))) (qss_one (qs_ret qe_bl)) qss_nil)
      (qss_one (qs_ret (qe_or (qe_cmp opU_is (qv 1) qe_non (nomark _)) (qe_one (qe_and (qe_call tk.px D_is_key (hr.mono (by decide)) (by rfl) (qa_cons (qv 1) qa_nil)) (qe_one (qe_cmp opU_lt (qv 0) (qv 1) (nomark _)))))))))
theorem sc_below : FnScope ["one", "other"] ["one", "other"] (defScope s_below) := ⟨rfl, rfl, rfl, by decide +kernel, rfl, by decide +kernel, by decide +kernel⟩
theorem ok_below {f : Addr} {fd : FuncData} (F : FnM K "below" "below" s_below f fd)  :
    FnOk P w K mg base (L2N.CX P w) 1 f fd ["one", "other"] (spF K f_below) := by
  rw [f_below_eq]
  exact fn_w F sc_below (by decide) fun cdv A outer s H E hr tk po pa => (qss_cons (qs_if (qt_cmp opU_is (qv 0) qe_non (nomark _)) (qss_one (qs_ret qe_bl)) qss_nil)
      (qss_one (qs_ret (qe_or (qe_cmp opU_is (qv 1) qe_non (nomark _)) (qe_one (qe_cmp opU_lt (qv 0) (qv 1) (nomark _)))))))
theorem sc_contains : FnScope ["low", "high", "bound"] ["low", "high", "bound"] (defScope s_contains) := ⟨rfl, rfl, rfl, by decide +kernel, rfl, by decide +kernel, by decide +kernel⟩
theorem ok_contains {f : Addr} {fd : FuncData} (F : FnM K "contains" "contains" s_contains f fd) (D_below : DefQ P w K mg base 1 "below" ["one", "other"] f_below) :
    FnOk P w K mg base (L2N.CX P w) 2 f fd ["low", "high", "bound"] (spF K f_contains) := by
  rw [f_contains_eq]
  exact fn_w F sc_contains (by decide) fun cdv A outer s H E hr tk po pa => (qss_one (qs_ret (qe_and (qe_cmp opU_le (qv 0) (qv 2) (nomark _)) (qe_one (qe_call tk.px D_below (hr.mono (by decide)) (by rfl) (qa_cons (qv 2) (qa_cons (qv 1) qa_nil)))))))
theorem sc_is_printable : FnScope ["value", "character"] ["value"] (defScope s_is_printable) := ⟨rfl, rfl, rfl, by decide +kernel, rfl, by decide +kernel, by decide +kernel⟩
theorem ok_is_printable {f : Addr} {fd : FuncData} (F : FnM K "is_printable" "is_printable" s_is_printable f fd) (z_isinstance : mg "isinstance" = none) (z_str : mg "str" = none) (z_ord : mg "ord" = none) (c_BARRED : ∃ t, mg "BARRED" = some (.int 37 t)) :
    FnOk P w K mg base (L2N.CX P w) 1 f fd ["value"] (spF K f_is_printable) := by
  rw [f_is_printable_eq]
  exact fn_w F sc_is_printable (by decide) fun cdv A outer s H E hr tk po pa => (qss_cons (qs_if (qt_not (qt_val (qe_isi .str (by rfl) z_isinstance (by rfl) z_str (by decide +kernel) (qv 0)))) (qss_one (qs_ret qe_bl)) qss_nil)
      (qss_cons (qs_for po (by rfl) (qi_seq (qv 0)) (qg_name (i := 1) sc_is_printable.nd rfl (Or.inl rfl)) (qss_one (qs_if (QW.qt (qw_or (qt_not (qt_chain opU_le opU_le qe_str (qv 1) qe_str)) (qw_or1 (qt_cmp (opU_equ hr.units) (qe_b cb_ord (by rfl) z_ord (by decide +kernel) (qa_cons (qv 1) qa_nil)) (qe_gint (by rfl) c_BARRED) (nomark _))))) (qss_one (qs_ret qe_bl)) qss_nil)))
      (qss_one (qs_ret qe_bl))))
theorem sc_is_integer : FnScope ["value", "least", "greatest"] ["value", "least", "greatest"] (defScope s_is_integer) := ⟨rfl, rfl, rfl, by decide +kernel, rfl, by decide +kernel, by decide +kernel⟩
theorem ok_is_integer {f : Addr} {fd : FuncData} (F : FnM K "is_integer" "is_integer" s_is_integer f fd) (z_isinstance : mg "isinstance" = none) (z_bool : mg "bool" = none) (z_int : mg "int" = none) :
    FnOk P w K mg base (L2N.CX P w) 1 f fd ["value", "least", "greatest"] (spF K f_is_integer) := by
  rw [f_is_integer_eq]
  exact fn_w F sc_is_integer (by decide) fun cdv A outer s H E hr tk po pa => (qss_cons (qs_if (QW.qt (qw_or (qt_not (qt_val (qe_isi .int (by rfl) z_isinstance (by rfl) z_int (by decide +kernel) (qv 0)))) (qw_or1 (qt_val (qe_isi .bl (by rfl) z_isinstance (by rfl) z_bool (by decide +kernel) (qv 0)))))) (qss_one (qs_ret qe_bl)) qss_nil)
      (qss_one (qs_ret (qe_chn opU_le opU_le (qv 1) (qv 0) (qv 2)))))
theorem sc_kind_of : FnScope ["value"] ["value"] (defScope s_kind_of) := ⟨rfl, rfl, rfl, by decide +kernel, rfl, by decide +kernel, by decide +kernel⟩
theorem ok_kind_of {f : Addr} {fd : FuncData} (F : FnM K "kind_of" "kind_of" s_kind_of f fd) (z_isinstance : mg "isinstance" = none) (z_str : mg "str" = none) (z_len : mg "len" = none) (z_tuple : mg "tuple" = none) :
    FnOk P w K mg base (L2N.CX P w) 1 f fd ["value"] (spF K f_kind_of) := by
  rw [f_kind_of_eq]
  exact fn_w F sc_kind_of (by decide) fun cdv A outer s H E hr tk po pa => (qss_cons (qs_if (QW.qt (qw_and (qt_val (qe_isi .tup (by rfl) z_isinstance (by rfl) z_tuple (by decide +kernel) (qv 0))) (qw_and (qt_cmp opU_gt (qe_b cb_len (by rfl) z_len (by decide +kernel) (qa_cons (qv 0) qa_nil)) qe_int (nomark _)) (qw_and1 (qt_val (qe_isi .str (by rfl) z_isinstance (by rfl) z_str (by decide +kernel) (qe_ix hr.units (qv 0) qe_int (fun _ _ => rfl)))))))) (qss_one (qs_ret (qe_ix hr.units (qv 0) qe_int (fun _ _ => rfl)))) qss_nil)
      (qss_one (qs_ret qe_str)))
theorem sc_is_value : FnScope ["value"] ["value"] (defScope s_is_value) := ⟨rfl, rfl, rfl, by decide +kernel, rfl, by decide +kernel, by decide +kernel⟩
theorem ok_is_value {f : Addr} {fd : FuncData} (F : FnM K "is_value" "is_value" s_is_value f fd) (z_len : mg "len" = none) (c_MOST_VALUE : ∃ t, mg "MOST_VALUE" = some (.int 40 t)) (D_is_printable : DefQ P w K mg base 1 "is_printable" ["value"] f_is_printable) :
    FnOk P w K mg base (L2N.CX P w) 2 f fd ["value"] (spF K f_is_value) := by
  rw [f_is_value_eq]
  exact fn_w F sc_is_value (by decide) fun cdv A outer s H E hr tk po pa => (qss_one (qs_ret (qe_and (qe_call tk.px D_is_printable (hr.mono (by decide)) (by rfl) (qa_cons (qv 0) qa_nil)) (qe_one (qe_cmp opU_le (qe_b cb_len (by rfl) z_len (by decide +kernel) (qa_cons (qv 0) qa_nil)) (qe_gint (by rfl) c_MOST_VALUE) (nomark _))))))
theorem sc__is_pair : FnScope ["value"] ["value"] (defScope s__is_pair) := ⟨rfl, rfl, rfl, by decide +kernel, rfl, by decide +kernel, by decide +kernel⟩
theorem ok__is_pair {f : Addr} {fd : FuncData} (F : FnM K "_is_pair" "_is_pair" s__is_pair f fd) (D_is_value : DefQ P w K mg base 2 "is_value" ["value"] f_is_value) (D_is_key : DefQ P w K mg base 1 "is_key" ["value"] f_is_key) (z_len : mg "len" = none) (z_isinstance : mg "isinstance" = none) (z_tuple : mg "tuple" = none) :
    FnOk P w K mg base (L2N.CX P w) 3 f fd ["value"] (spF K f__is_pair) := by
  rw [f__is_pair_eq]
  exact fn_w F sc__is_pair (by decide) fun cdv A outer s H E hr tk po pa => (qss_one (qs_ret (qe_and (qe_isi .tup (by rfl) z_isinstance (by rfl) z_tuple (by decide +kernel) (qv 0)) (qe_and (qe_cmp (opU_equ hr.units) (qe_b cb_len (by rfl) z_len (by decide +kernel) (qa_cons (qv 0) qa_nil)) qe_int (nomark _)) (qe_and (qe_call tk.px D_is_key (hr.mono (by decide)) (by rfl) (qa_cons (qe_ix hr.units (qv 0) qe_int (fun _ _ => rfl)) qa_nil)) (qe_one (qe_call tk.px D_is_value (hr.mono (by decide)) (by rfl) (qa_cons (qe_ix hr.units (qv 0) qe_int (fun _ _ => rfl)) qa_nil))))))))
theorem sc_are_pairs : FnScope ["value", "last", "pair"] ["value"] (defScope s_are_pairs) := ⟨rfl, rfl, rfl, by decide +kernel, rfl, by decide +kernel, by decide +kernel⟩
theorem ok_are_pairs {f : Addr} {fd : FuncData} (F : FnM K "are_pairs" "are_pairs" s_are_pairs f fd) (z_isinstance : mg "isinstance" = none) (z_tuple : mg "tuple" = none) (D__is_pair : DefQ P w K mg base 3 "_is_pair" ["value"] f__is_pair) :
    FnOk P w K mg base (L2N.CX P w) 4 f fd ["value"] (spF K f_are_pairs) := by
  rw [f_are_pairs_eq]
  exact fn_w F sc_are_pairs (by decide) fun cdv A outer s H E hr tk po pa => (qss_cons (qs_if (qt_not (qt_val (qe_isi .tup (by rfl) z_isinstance (by rfl) z_tuple (by decide +kernel) (qv 0)))) (qss_one (qs_ret qe_bl)) qss_nil)
      (qss_cons (qs_set (i := 1) sc_are_pairs.nd rfl (Or.inl rfl) qe_str)
      (qss_cons (qs_for po (by rfl) (qi_seq (qv 0)) (qg_name (i := 2) sc_are_pairs.nd rfl (Or.inl rfl)) (qss_cons (qs_if (QW.qt (qw_or (qt_not (qt_val (qe_call tk.px D__is_pair (hr.mono (by decide)) (by rfl) (qa_cons (qv 2) qa_nil)))) (qw_or1 (qt_cmp opU_le (qe_ix hr.units (qv 2) qe_int (fun _ _ => rfl)) (qv 1) (nomark _))))) (qss_one (qs_ret qe_bl)) qss_nil)
      (qss_one (qs_set (i := 1) sc_are_pairs.nd rfl (Or.inl rfl) (qe_ix hr.units (qv 2) qe_int (fun _ _ => rfl))))))
      (qss_one (qs_ret qe_bl)))))
theorem sc__is_key_alone : FnScope ["op"] ["op"] (defScope s__is_key_alone) := ⟨rfl, rfl, rfl, by decide +kernel, rfl, by decide +kernel, by decide +kernel⟩
theorem ok__is_key_alone {f : Addr} {fd : FuncData} (F : FnM K "_is_key_alone" "_is_key_alone" s__is_key_alone f fd) (D_is_key : DefQ P w K mg base 1 "is_key" ["value"] f_is_key) (z_len : mg "len" = none) :
    FnOk P w K mg base (L2N.CX P w) 2 f fd ["op"] (spF K f__is_key_alone) := by
  rw [f__is_key_alone_eq]
  exact fn_w F sc__is_key_alone (by decide) fun cdv A outer s H E hr tk po pa => (qss_one (qs_ret (qe_and (qe_cmp (opU_equ hr.units) (qe_b cb_len (by rfl) z_len (by decide +kernel) (qa_cons (qv 0) qa_nil)) qe_int (nomark _)) (qe_one (qe_call tk.px D_is_key (hr.mono (by decide)) (by rfl) (qa_cons (qe_ix hr.units (qv 0) qe_int (fun _ _ => rfl)) qa_nil))))))
theorem sc__is_put : FnScope ["op"] ["op"] (defScope s__is_put) := ⟨rfl, rfl, rfl, by decide +kernel, rfl, by decide +kernel, by decide +kernel⟩
theorem ok__is_put {f : Addr} {fd : FuncData} (F : FnM K "_is_put" "_is_put" s__is_put f fd) (D_is_value : DefQ P w K mg base 2 "is_value" ["value"] f_is_value) (D_is_key : DefQ P w K mg base 1 "is_key" ["value"] f_is_key) (z_len : mg "len" = none) :
    FnOk P w K mg base (L2N.CX P w) 3 f fd ["op"] (spF K f__is_put) := by
  rw [f__is_put_eq]
  exact fn_w F sc__is_put (by decide) fun cdv A outer s H E hr tk po pa => (qss_one (qs_ret (qe_and (qe_cmp (opU_equ hr.units) (qe_b cb_len (by rfl) z_len (by decide +kernel) (qa_cons (qv 0) qa_nil)) qe_int (nomark _)) (qe_and (qe_call tk.px D_is_key (hr.mono (by decide)) (by rfl) (qa_cons (qe_ix hr.units (qv 0) qe_int (fun _ _ => rfl)) qa_nil)) (qe_one (qe_call tk.px D_is_value (hr.mono (by decide)) (by rfl) (qa_cons (qe_ix hr.units (qv 0) qe_int (fun _ _ => rfl)) qa_nil)))))))
theorem sc__is_swap : FnScope ["op"] ["op"] (defScope s__is_swap) := ⟨rfl, rfl, rfl, by decide +kernel, rfl, by decide +kernel, by decide +kernel⟩
theorem ok__is_swap {f : Addr} {fd : FuncData} (F : FnM K "_is_swap" "_is_swap" s__is_swap f fd) (D_is_value : DefQ P w K mg base 2 "is_value" ["value"] f_is_value) (D_is_key : DefQ P w K mg base 1 "is_key" ["value"] f_is_key) (z_len : mg "len" = none) :
    FnOk P w K mg base (L2N.CX P w) 3 f fd ["op"] (spF K f__is_swap) := by
  rw [f__is_swap_eq]
  exact fn_w F sc__is_swap (by decide) fun cdv A outer s H E hr tk po pa => (qss_one (qs_ret (qe_and (qe_cmp (opU_equ hr.units) (qe_b cb_len (by rfl) z_len (by decide +kernel) (qa_cons (qv 0) qa_nil)) qe_int (nomark _)) (qe_and (qe_call tk.px D_is_key (hr.mono (by decide)) (by rfl) (qa_cons (qe_ix hr.units (qv 0) qe_int (fun _ _ => rfl)) qa_nil)) (qe_and (qe_call tk.px D_is_value (hr.mono (by decide)) (by rfl) (qa_cons (qe_ix hr.units (qv 0) qe_int (fun _ _ => rfl)) qa_nil)) (qe_one (qe_call tk.px D_is_value (hr.mono (by decide)) (by rfl) (qa_cons (qe_ix hr.units (qv 0) qe_int (fun _ _ => rfl)) qa_nil))))))))
theorem sc__is_page : FnScope ["op"] ["op"] (defScope s__is_page) := ⟨rfl, rfl, rfl, by decide +kernel, rfl, by decide +kernel, by decide +kernel⟩
theorem ok__is_page {f : Addr} {fd : FuncData} (F : FnM K "_is_page" "_is_page" s__is_page f fd) (c_MOST_PAGE : ∃ t, mg "MOST_PAGE" = some (.int 50 t)) (D_is_integer : DefQ P w K mg base 1 "is_integer" ["value", "least", "greatest"] f_is_integer) (D_is_bound : DefQ P w K mg base 2 "is_bound" ["value"] f_is_bound) (z_len : mg "len" = none) :
    FnOk P w K mg base (L2N.CX P w) 3 f fd ["op"] (spF K f__is_page) := by
  rw [f__is_page_eq]
  exact fn_w F sc__is_page (by decide) fun cdv A outer s H E hr tk po pa => (qss_one (qs_ret (qe_and (qe_cmp (opU_equ hr.units) (qe_b cb_len (by rfl) z_len (by decide +kernel) (qa_cons (qv 0) qa_nil)) qe_int (nomark _)) (qe_and (qe_call tk.px D_is_bound (hr.mono (by decide)) (by rfl) (qa_cons (qe_ix hr.units (qv 0) qe_int (fun _ _ => rfl)) qa_nil)) (qe_one (qe_call tk.px D_is_integer (hr.mono (by decide)) (by rfl) (qa_cons (qe_ix hr.units (qv 0) qe_int (fun _ _ => rfl)) (qa_cons qe_int (qa_cons (qe_gint (by rfl) c_MOST_PAGE) qa_nil)))))))))
theorem sc_is_operation : FnScope ["value", "kind", "check"] ["value"] (defScope s_is_operation) := ⟨rfl, rfl, rfl, by decide +kernel, rfl, by decide +kernel, by decide +kernel⟩
theorem ok_is_operation {f : Addr} {fd : FuncData} (F : FnM K "is_operation" "is_operation" s_is_operation f fd) (D_kind_of : DefQ P w K mg base 1 "kind_of" ["value"] f_kind_of) (t_OPERATIONS : TabQ K w mg "OPERATIONS" [("get", .fn "_is_key_alone"), ("put", .fn "_is_put"), ("drop", .fn "_is_key_alone"), ("swap", .fn "_is_swap"), ("page", .fn "_is_page")]) (D__is_page : DefQ P w K mg base 3 "_is_page" ["op"] f__is_page) (gd__is_page : mg "_is_page" = some (.ref (He.ga K "_is_page"))) (D__is_swap : DefQ P w K mg base 3 "_is_swap" ["op"] f__is_swap) (gd__is_swap : mg "_is_swap" = some (.ref (He.ga K "_is_swap"))) (D__is_put : DefQ P w K mg base 3 "_is_put" ["op"] f__is_put) (gd__is_put : mg "_is_put" = some (.ref (He.ga K "_is_put"))) (D__is_key_alone : DefQ P w K mg base 2 "_is_key_alone" ["op"] f__is_key_alone) (gd__is_key_alone : mg "_is_key_alone" = some (.ref (He.ga K "_is_key_alone"))) :
    FnOk P w K mg base (L2N.CX P w) 4 f fd ["value"] (spF K f_is_operation) := by
  rw [f_is_operation_eq]
  exact fn_w F sc_is_operation (by decide) fun cdv A outer s H E hr tk po pa => (qss_cons (qs_set (i := 1) sc_is_operation.nd rfl (Or.inl rfl) (qe_call tk.px D_kind_of (hr.mono (by decide)) (by rfl) (qa_cons (qv 0) qa_nil)))
      (qss_cons (qs_if (qt_cmp (opU_tnin t_OPERATIONS) (qv 1) (qe_tab t_OPERATIONS (by rfl)) (by rfl)) (qss_one (qs_ret qe_bl)) qss_nil)
      (qss_cons (qs_set (i := 2) sc_is_operation.nd rfl (Or.inl rfl) (qe_tix t_OPERATIONS (qe_tab t_OPERATIONS (by rfl)) (qv 1) (fun _ _ => rfl)))
      (qss_one (qs_ret (qe_cl (k := 3) (i := 2) tk.px (defsC gd__is_key_alone (D__is_key_alone.mono (by decide)) (defsC gd__is_put (D__is_put.mono (by decide)) (defsC gd__is_swap (D__is_swap.mono (by decide)) (defsC gd__is_page (D__is_page.mono (by decide)) defsN)))) (hr.mono (by decide)) rfl (by first | exact Or.inl rfl | exact Or.inr (Or.inl rfl)) (qa_cons (qv 0) qa_nil)))))))
theorem sc_place : FnScope ["op"] ["op"] (defScope s_place) := ⟨rfl, rfl, rfl, by decide +kernel, rfl, by decide +kernel, by decide +kernel⟩
theorem ok_place {f : Addr} {fd : FuncData} (F : FnM K "place" "place" s_place f fd) (D_is_operation : DefQ P w K mg base 4 "is_operation" ["value"] f_is_operation) (x_BadOperation : ExcQ K mg "BadOperation") :
    FnOk P w K mg base (L2N.CX P w) 5 f fd ["op"] (spF K f_place) := by
  rw [f_place_eq]
  exact fn_w F sc_place (by decide) fun cdv A outer s H E hr tk po pa => (qss_cons (qs_if (qt_not (qt_val (qe_call tk.px D_is_operation (hr.mono (by decide)) (by rfl) (qa_cons (qv 0) qa_nil)))) (qss_one (qs_raise x_BadOperation (by rfl) tk (by rfl))) qss_nil)
      (qss_one (qs_ret (qe_ix hr.units (qv 0) qe_int (fun _ _ => rfl)))))
theorem sc_is_within : FnScope ["op", "low", "high"] ["op", "low", "high"] (defScope s_is_within) := ⟨rfl, rfl, rfl, by decide +kernel, rfl, by decide +kernel, by decide +kernel⟩
theorem ok_is_within {f : Addr} {fd : FuncData} (F : FnM K "is_within" "is_within" s_is_within f fd) (D_place : DefQ P w K mg base 5 "place" ["op"] f_place) (D_contains : DefQ P w K mg base 2 "contains" ["low", "high", "bound"] f_contains) :
    FnOk P w K mg base (L2N.CX P w) 6 f fd ["op", "low", "high"] (spF K f_is_within) := by
  rw [f_is_within_eq]
  exact fn_w F sc_is_within (by decide) fun cdv A outer s H E hr tk po pa => (qss_one (qs_ret (qe_call tk.px D_contains (hr.mono (by decide)) (by rfl) (qa_cons (qv 1) (qa_cons (qv 2) (qa_cons (qe_call tk.px D_place (hr.mono (by decide)) (by rfl) (qa_cons (qv 0) qa_nil)) qa_nil))))))
theorem sc__get : FnScope ["items", "op", "high"] ["items", "op", "high"] (defScope s__get) := ⟨rfl, rfl, rfl, by decide +kernel, rfl, by decide +kernel, by decide +kernel⟩
theorem ok__get {f : Addr} {fd : FuncData} (F : FnM K "_get" "_get" s__get f fd) (u_NONE : TupQ K mg "NONE" ["none"]) :
    FnOk P w K mg base (L2N.CX P w) 1 f fd ["items", "op", "high"] (spF K f__get) := by
  rw [f__get_eq]
  exact fn_w F sc__get (by decide) fun cdv A outer s H E hr tk po pa => (qss_cons (qs_if (qt_cmp (opU_nin hr.units) (qe_ix hr.units (qv 1) qe_int (fun _ _ => rfl)) (qv 0) (by rfl)) (qss_one (qs_ret (qe_gtup (by rfl) u_NONE))) qss_nil)
      (qss_one (qs_ret (qe_tup (qa_cons qe_str (qa_cons (qe_ix hr.units (qv 0) (qe_ix hr.units (qv 1) qe_int (fun _ _ => rfl)) (fun _ _ => rfl)) qa_nil))))))
theorem sc__put : FnScope ["items", "op", "high"] ["items", "op", "high"] (defScope s__put) := ⟨rfl, rfl, rfl, by decide +kernel, rfl, by decide +kernel, by decide +kernel⟩
theorem ok__put {f : Addr} {fd : FuncData} (F : FnM K "_put" "_put" s__put f fd) (u_DONE : TupQ K mg "DONE" ["done"]) :
    FnOk P w K mg base (L2N.CX P w) 1 f fd ["items", "op", "high"] (spF K f__put) := by
  rw [f__put_eq]
  exact fn_w F sc__put (by decide) fun cdv A outer s H E hr tk po pa => (qss_cons (qs_put (hu_of hr) (qv 0) (qe_ix hr.units (qv 1) qe_int (fun _ _ => rfl)) (qe_ix hr.units (qv 1) qe_int (fun _ _ => rfl)))
      (qss_one (qs_ret (qe_gtup (by rfl) u_DONE))))
theorem sc__drop : FnScope ["items", "op", "high"] ["items", "op", "high"] (defScope s__drop) := ⟨rfl, rfl, rfl, by decide +kernel, rfl, by decide +kernel, by decide +kernel⟩
theorem ok__drop {f : Addr} {fd : FuncData} (F : FnM K "_drop" "_drop" s__drop f fd) (u_NONE : TupQ K mg "NONE" ["none"]) (u_DONE : TupQ K mg "DONE" ["done"]) :
    FnOk P w K mg base (L2N.CX P w) 1 f fd ["items", "op", "high"] (spF K f__drop) := by
  rw [f__drop_eq]
  exact fn_w F sc__drop (by decide) fun cdv A outer s H E hr tk po pa => (qss_cons (qs_if (qt_cmp (opU_nin hr.units) (qe_ix hr.units (qv 1) qe_int (fun _ _ => rfl)) (qv 0) (by rfl)) (qss_one (qs_ret (qe_gtup (by rfl) u_NONE))) qss_nil)
      (qss_cons (qs_del (qv 0) (qe_ix hr.units (qv 1) qe_int (fun _ _ => rfl)))
      (qss_one (qs_ret (qe_gtup (by rfl) u_DONE)))))
theorem sc__swap : FnScope ["items", "op", "high", "_", "key", "old", "new"] ["items", "op", "high"] (defScope s__swap) := ⟨rfl, rfl, rfl, by decide +kernel, rfl, by decide +kernel, by decide +kernel⟩
theorem ok__swap {f : Addr} {fd : FuncData} (F : FnM K "_swap" "_swap" s__swap f fd) (u_NONE : TupQ K mg "NONE" ["none"]) (u_DONE : TupQ K mg "DONE" ["done"]) :
    FnOk P w K mg base (L2N.CX P w) 1 f fd ["items", "op", "high"] (spF K f__swap) := by
  rw [f__swap_eq]
  exact fn_w F sc__swap (by decide) fun cdv A outer s H E hr tk po pa => (qss_cons (qs_asg (qv 1) (qg_tup (by rfl) (qgs_cons (qg_name (i := 3) sc__swap.nd rfl (Or.inl rfl)) (qgs_cons (qg_name (i := 4) sc__swap.nd rfl (Or.inl rfl)) (qgs_cons (qg_name (i := 5) sc__swap.nd rfl (Or.inl rfl)) (qgs_cons (qg_name (i := 6) sc__swap.nd rfl (Or.inl rfl)) qgs_nil))))))
      (qss_cons (qs_if (qt_cmp (opU_nin hr.units) (qv 4) (qv 0) (by rfl)) (qss_one (qs_ret (qe_gtup (by rfl) u_NONE))) qss_nil)
      (qss_cons (qs_if (qt_cmp (opU_neq hr.units) (qe_ix hr.units (qv 0) (qv 4) (fun _ _ => rfl)) (qv 5) (nomark _)) (qss_one (qs_ret (qe_tup (qa_cons qe_str (qa_cons (qe_ix hr.units (qv 0) (qv 4) (fun _ _ => rfl)) qa_nil))))) qss_nil)
      (qss_cons (qs_put (hu_of hr) (qv 0) (qv 4) (qv 6))
      (qss_one (qs_ret (qe_gtup (by rfl) u_DONE)))))))
theorem sc__page : FnScope ["items", "op", "high", "keys", "pairs", "_", "low", "limit", "key"] ["items", "op", "high"] (defScope s__page) := ⟨rfl, rfl, rfl, by decide +kernel, rfl, by decide +kernel, by decide +kernel⟩
theorem ok__page {f : Addr} {fd : FuncData} (F : FnM K "_page" "_page" s__page f fd) (z_sorted : mg "sorted" = none) (z_tuple : mg "tuple" = none) (z_len : mg "len" = none) :
    FnOk P w K mg base (L2N.CX P w) 1 f fd ["items", "op", "high"] (spF K f__page) := by
  rw [f__page_eq]
  exact fn_w F sc__page (by decide) fun cdv A outer s H E hr tk po pa => (qss_cons (qs_asg (qv 1) (qg_tup (by rfl) (qgs_cons (qg_name (i := 5) sc__page.nd rfl (Or.inl rfl)) (qgs_cons (qg_name (i := 6) sc__page.nd rfl (Or.inr rfl)) (qgs_cons (qg_name (i := 7) sc__page.nd rfl (Or.inl rfl)) qgs_nil)))))
      (qss_cons (qs_set (i := 3) sc__page.nd rfl (Or.inl rfl) (qe_b cb_srS (by rfl) z_sorted (by decide +kernel) (qa_cons (qe_lock (qe_lcV (own := [("key", 8)]) (by rfl) sc__page.nd (qi_keys (qv 0)) (blkOk_by (own := [("key", 8)]) (N := ["items", "op", "high", "keys", "pairs", "_", "low", "limit", "key"]) (sc := defScope s__page) (by decide +kernel)) (fun _ _ _ _ _ => qgv_name (i := 8) sc__page.nd rfl (Or.inl rfl)) (fun _ _ _ _ _ => qts_one (qt_cmp opU_le (qv 6) (qv 8) (nomark _))) (fun _ _ _ _ _ => (qv 8)))) qa_nil)))
      (qss_cons (qs_set (i := 4) sc__page.nd rfl (Or.inl rfl) (qe_ty cb_tup (by rfl) z_tuple (by decide +kernel) (qa_cons (qe_lcV (own := [("key", 8)]) (by rfl) sc__page.nd (qi_seq (qe_sl (qv 3) qo_none (qo_some (qv 7)))) (blkOk_by (own := [("key", 8)]) (N := ["items", "op", "high", "keys", "pairs", "_", "low", "limit", "key"]) (sc := defScope s__page) (by decide +kernel)) (fun _ _ _ _ _ => qgv_name (i := 8) sc__page.nd rfl (Or.inl rfl)) (fun _ _ _ _ _ => qts_nil) (fun _ _ _ _ _ => (qe_tup (qa_cons (qv 8) (qa_cons (qe_ix hr.units (qv 0) (qv 8) (fun _ _ => rfl)) qa_nil))))) qa_nil)))
      (qss_cons (qs_if (qt_cmp opU_gt (qe_b cb_len (by rfl) z_len (by decide +kernel) (qa_cons (qv 3) qa_nil)) (qv 7) (nomark _)) (qss_one (qs_ret (qe_tup (qa_cons qe_str (qa_cons (qv 4) (qa_cons (qe_ix hr.units (qv 3) (qv 7) (fun _ _ => rfl)) qa_nil)))))) qss_nil)
      (qss_one (qs_ret (qe_tup (qa_cons qe_str (qa_cons (qv 4) (qa_cons (qv 2) qa_nil))))))))))
theorem sc_apply : FnScope ["items", "op", "high", "action"] ["items", "op", "high"] (defScope s_apply) := ⟨rfl, rfl, rfl, by decide +kernel, rfl, by decide +kernel, by decide +kernel⟩
theorem ok_apply {f : Addr} {fd : FuncData} (F : FnM K "apply" "apply" s_apply f fd) (t_ACTIONS : TabQ K w mg "ACTIONS" [("get", .fn "_get"), ("put", .fn "_put"), ("drop", .fn "_drop"), ("swap", .fn "_swap"), ("page", .fn "_page")]) (D__page : DefQ P w K mg base 1 "_page" ["items", "op", "high"] f__page) (gd__page : mg "_page" = some (.ref (He.ga K "_page"))) (D__swap : DefQ P w K mg base 1 "_swap" ["items", "op", "high"] f__swap) (gd__swap : mg "_swap" = some (.ref (He.ga K "_swap"))) (D__drop : DefQ P w K mg base 1 "_drop" ["items", "op", "high"] f__drop) (gd__drop : mg "_drop" = some (.ref (He.ga K "_drop"))) (D__put : DefQ P w K mg base 1 "_put" ["items", "op", "high"] f__put) (gd__put : mg "_put" = some (.ref (He.ga K "_put"))) (D__get : DefQ P w K mg base 1 "_get" ["items", "op", "high"] f__get) (gd__get : mg "_get" = some (.ref (He.ga K "_get"))) :
    FnOk P w K mg base (L2N.CX P w) 2 f fd ["items", "op", "high"] (spF K f_apply) := by
  rw [f_apply_eq]
  exact fn_w F sc_apply (by decide) fun cdv A outer s H E hr tk po pa => (qss_cons (qs_set (i := 3) sc_apply.nd rfl (Or.inl rfl) (qe_tix t_ACTIONS (qe_tab t_ACTIONS (by rfl)) (qe_ix hr.units (qv 1) qe_int (fun _ _ => rfl)) (fun _ _ => rfl)))
      (qss_one (qs_ret (qe_cl (k := 1) (i := 3) tk.px (defsC gd__get (D__get.mono (by decide)) (defsC gd__put (D__put.mono (by decide)) (defsC gd__drop (D__drop.mono (by decide)) (defsC gd__swap (D__swap.mono (by decide)) (defsC gd__page (D__page.mono (by decide)) defsN))))) (hr.mono (by decide)) rfl (by first | exact Or.inl rfl | exact Or.inr (Or.inl rfl)) (qa_cons (qv 0) (qa_cons (qv 1) (qa_cons (qv 2) qa_nil)))))))
theorem sc__is_word_alone : FnScope ["answer"] ["answer"] (defScope s__is_word_alone) := ⟨rfl, rfl, rfl, by decide +kernel, rfl, by decide +kernel, by decide +kernel⟩
theorem ok__is_word_alone {f : Addr} {fd : FuncData} (F : FnM K "_is_word_alone" "_is_word_alone" s__is_word_alone f fd) (z_len : mg "len" = none) :
    FnOk P w K mg base (L2N.CX P w) 1 f fd ["answer"] (spF K f__is_word_alone) := by
  rw [f__is_word_alone_eq]
  exact fn_w F sc__is_word_alone (by decide) fun cdv A outer s H E hr tk po pa => (qss_one (qs_ret (qe_cmp (opU_equ hr.units) (qe_b cb_len (by rfl) z_len (by decide +kernel) (qa_cons (qv 0) qa_nil)) qe_int (nomark _))))
theorem sc__is_value_told : FnScope ["answer"] ["answer"] (defScope s__is_value_told) := ⟨rfl, rfl, rfl, by decide +kernel, rfl, by decide +kernel, by decide +kernel⟩
theorem ok__is_value_told {f : Addr} {fd : FuncData} (F : FnM K "_is_value_told" "_is_value_told" s__is_value_told f fd) (D_is_value : DefQ P w K mg base 2 "is_value" ["value"] f_is_value) (z_len : mg "len" = none) :
    FnOk P w K mg base (L2N.CX P w) 3 f fd ["answer"] (spF K f__is_value_told) := by
  rw [f__is_value_told_eq]
  exact fn_w F sc__is_value_told (by decide) fun cdv A outer s H E hr tk po pa => (qss_one (qs_ret (qe_and (qe_cmp (opU_equ hr.units) (qe_b cb_len (by rfl) z_len (by decide +kernel) (qa_cons (qv 0) qa_nil)) qe_int (nomark _)) (qe_one (qe_call tk.px D_is_value (hr.mono (by decide)) (by rfl) (qa_cons (qe_ix hr.units (qv 0) qe_int (fun _ _ => rfl)) qa_nil))))))
theorem sc__is_page_told : FnScope ["answer", "_", "pairs", "following"] ["answer"] (defScope s__is_page_told) := ⟨rfl, rfl, rfl, by decide +kernel, rfl, by decide +kernel, by decide +kernel⟩
theorem ok__is_page_told {f : Addr} {fd : FuncData} (F : FnM K "_is_page_told" "_is_page_told" s__is_page_told f fd) (z_len : mg "len" = none) (c_MOST_PAGE : ∃ t, mg "MOST_PAGE" = some (.int 50 t)) (D_are_pairs : DefQ P w K mg base 4 "are_pairs" ["value"] f_are_pairs) (D_is_key : DefQ P w K mg base 1 "is_key" ["value"] f_is_key) (D_below : DefQ P w K mg base 1 "below" ["one", "other"] f_below) :
    FnOk P w K mg base (L2N.CX P w) 5 f fd ["answer"] (spF K f__is_page_told) := by
  rw [f__is_page_told_eq]
  exact fn_w F sc__is_page_told (by decide) fun cdv A outer s H E hr tk po pa => (qss_cons (qs_if (qt_cmp (opU_neq hr.units) (qe_b cb_len (by rfl) z_len (by decide +kernel) (qa_cons (qv 0) qa_nil)) qe_int (nomark _)) (qss_one (qs_ret qe_bl)) qss_nil)
      (qss_cons (qs_asg (qv 0) (qg_tup (by rfl) (qgs_cons (qg_name (i := 1) sc__is_page_told.nd rfl (Or.inl rfl)) (qgs_cons (qg_name (i := 2) sc__is_page_told.nd rfl (Or.inl rfl)) (qgs_cons (qg_name (i := 3) sc__is_page_told.nd rfl (Or.inl rfl)) qgs_nil)))))
      (qss_cons (qs_if (QW.qt (qw_or (qt_not (qt_val (qe_call tk.px D_are_pairs (hr.mono (by decide)) (by rfl) (qa_cons (qv 2) qa_nil)))) (qw_or1 (qt_cmp opU_gt (qe_b cb_len (by rfl) z_len (by decide +kernel) (qa_cons (qv 2) qa_nil)) (qe_gint (by rfl) c_MOST_PAGE) (nomark _))))) (qss_one (qs_ret qe_bl)) qss_nil)
      (qss_cons (qs_if (QW.qt (qw_and (qt_cmp opU_isnt (qv 3) qe_non (nomark _)) (qw_and1 (qt_not (qt_val (qe_call tk.px D_is_key (hr.mono (by decide)) (by rfl) (qa_cons (qv 3) qa_nil))))))) (qss_one (qs_ret qe_bl)) qss_nil)
      (qss_one (qs_ret (qe_or (qe_cmp (opU_equ hr.units) (qe_b cb_len (by rfl) z_len (by decide +kernel) (qa_cons (qv 2) qa_nil)) qe_int (nomark _)) (qe_one (qe_call tk.px D_below (hr.mono (by decide)) (by rfl) (qa_cons (qe_ix hr.units (qe_ix hr.units (qv 2) (qe_un unU_neg qe_int) (fun _ _ => rfl)) qe_int (fun _ _ => rfl)) (qa_cons (qv 3) qa_nil)))))))))))
theorem sc_is_answer : FnScope ["value", "kind", "check"] ["value"] (defScope s_is_answer) := ⟨rfl, rfl, rfl, by decide +kernel, rfl, by decide +kernel, by decide +kernel⟩
theorem ok_is_answer {f : Addr} {fd : FuncData} (F : FnM K "is_answer" "is_answer" s_is_answer f fd) (D_kind_of : DefQ P w K mg base 1 "kind_of" ["value"] f_kind_of) (t_ANSWERS : TabQ K w mg "ANSWERS" [("value", .fn "_is_value_told"), ("none", .fn "_is_word_alone"), ("done", .fn "_is_word_alone"), ("other", .fn "_is_value_told"), ("page", .fn "_is_page_told")]) (D__is_page_told : DefQ P w K mg base 5 "_is_page_told" ["answer"] f__is_page_told) (gd__is_page_told : mg "_is_page_told" = some (.ref (He.ga K "_is_page_told"))) (D__is_word_alone : DefQ P w K mg base 1 "_is_word_alone" ["answer"] f__is_word_alone) (gd__is_word_alone : mg "_is_word_alone" = some (.ref (He.ga K "_is_word_alone"))) (D__is_value_told : DefQ P w K mg base 3 "_is_value_told" ["answer"] f__is_value_told) (gd__is_value_told : mg "_is_value_told" = some (.ref (He.ga K "_is_value_told"))) :
    FnOk P w K mg base (L2N.CX P w) 6 f fd ["value"] (spF K f_is_answer) := by
  rw [f_is_answer_eq]
  exact fn_w F sc_is_answer (by decide) fun cdv A outer s H E hr tk po pa => (qss_cons (qs_set (i := 1) sc_is_answer.nd rfl (Or.inl rfl) (qe_call tk.px D_kind_of (hr.mono (by decide)) (by rfl) (qa_cons (qv 0) qa_nil)))
      (qss_cons (qs_if (qt_cmp (opU_tnin t_ANSWERS) (qv 1) (qe_tab t_ANSWERS (by rfl)) (by rfl)) (qss_one (qs_ret qe_bl)) qss_nil)
      (qss_cons (qs_set (i := 2) sc_is_answer.nd rfl (Or.inl rfl) (qe_tix t_ANSWERS (qe_tab t_ANSWERS (by rfl)) (qv 1) (fun _ _ => rfl)))
      (qss_one (qs_ret (qe_cl (k := 5) (i := 2) tk.px (defsC gd__is_value_told (D__is_value_told.mono (by decide)) (defsC gd__is_word_alone (D__is_word_alone.mono (by decide)) (defsC gd__is_page_told (D__is_page_told.mono (by decide)) defsN))) (hr.mono (by decide)) rfl (by first | exact Or.inl rfl | exact Or.inr (Or.inl rfl)) (qa_cons (qv 0) qa_nil)))))))
theorem sc_is_client : FnScope ["value"] ["value"] (defScope s_is_client) := ⟨rfl, rfl, rfl, by decide +kernel, rfl, by decide +kernel, by decide +kernel⟩
theorem ok_is_client {f : Addr} {fd : FuncData} (F : FnM K "is_client" "is_client" s_is_client f fd) (c_MOST_CLIENTS : ∃ t, mg "MOST_CLIENTS" = some (.int 100 t)) (D_is_integer : DefQ P w K mg base 1 "is_integer" ["value", "least", "greatest"] f_is_integer) :
    FnOk P w K mg base (L2N.CX P w) 2 f fd ["value"] (spF K f_is_client) := by
  rw [f_is_client_eq]
  exact fn_w F sc_is_client (by decide) fun cdv A outer s H E hr tk po pa => (qss_one (qs_ret (qe_call tk.px D_is_integer (hr.mono (by decide)) (by rfl) (qa_cons (qv 0) (qa_cons (qe_un unU_neg (qe_gint (by rfl) c_MOST_CLIENTS)) (qa_cons (qe_un unU_neg qe_int) qa_nil))))))
theorem sc_is_pairs : FnScope ["low", "high", "value", "key", "_"] ["low", "high", "value"] (defScope s_is_pairs) := ⟨rfl, rfl, rfl, by decide +kernel, rfl, by decide +kernel, by decide +kernel⟩
theorem ok_is_pairs {f : Addr} {fd : FuncData} (F : FnM K "is_pairs" "is_pairs" s_is_pairs f fd) (D_are_pairs : DefQ P w K mg base 4 "are_pairs" ["value"] f_are_pairs) (D_contains : DefQ P w K mg base 2 "contains" ["low", "high", "bound"] f_contains) :
    FnOk P w K mg base (L2N.CX P w) 5 f fd ["low", "high", "value"] (spF K f_is_pairs) := by
  rw [f_is_pairs_eq]
  exact fn_w F sc_is_pairs (by decide) fun cdv A outer s H E hr tk po pa => (qss_cons (qs_if (qt_not (qt_val (qe_call tk.px D_are_pairs (hr.mono (by decide)) (by rfl) (qa_cons (qv 2) qa_nil)))) (qss_one (qs_ret qe_bl)) qss_nil)
      (qss_cons (qs_for po (by rfl) (qi_seq (qv 2)) (qg_tup (by rfl) (qgs_cons (qg_name (i := 3) sc_is_pairs.nd rfl (Or.inl rfl)) (qgs_cons (qg_name (i := 4) sc_is_pairs.nd rfl (Or.inl rfl)) qgs_nil))) (qss_one (qs_if (qt_not (qt_val (qe_call tk.px D_contains (hr.mono (by decide)) (by rfl) (qa_cons (qv 0) (qa_cons (qv 1) (qa_cons (qv 3) qa_nil)))))) (qss_one (qs_ret qe_bl)) qss_nil)))
      (qss_one (qs_ret qe_bl))))
theorem sc_is_number : FnScope ["value"] ["value"] (defScope s_is_number) := ⟨rfl, rfl, rfl, by decide +kernel, rfl, by decide +kernel, by decide +kernel⟩
theorem ok_is_number {f : Addr} {fd : FuncData} (F : FnM K "is_number" "is_number" s_is_number f fd) (c_MOST_NUMBER : ∃ t, mg "MOST_NUMBER" = some (.int 1000000000000 t)) (D_is_integer : DefQ P w K mg base 1 "is_integer" ["value", "least", "greatest"] f_is_integer) :
    FnOk P w K mg base (L2N.CX P w) 2 f fd ["value"] (spF K f_is_number) := by
  rw [f_is_number_eq]
  exact fn_w F sc_is_number (by decide) fun cdv A outer s H E hr tk po pa => (qss_one (qs_ret (qe_call tk.px D_is_integer (hr.mono (by decide)) (by rfl) (qa_cons (qv 0) (qa_cons qe_int (qa_cons (qe_gint (by rfl) c_MOST_NUMBER) qa_nil))))))
theorem sc__is_row : FnScope ["value", "client", "number", "answer"] ["value"] (defScope s__is_row) := ⟨rfl, rfl, rfl, by decide +kernel, rfl, by decide +kernel, by decide +kernel⟩
theorem ok__is_row {f : Addr} {fd : FuncData} (F : FnM K "_is_row" "_is_row" s__is_row f fd) (z_len : mg "len" = none) (z_isinstance : mg "isinstance" = none) (z_tuple : mg "tuple" = none) (D_is_answer : DefQ P w K mg base 6 "is_answer" ["value"] f_is_answer) (D_is_number : DefQ P w K mg base 2 "is_number" ["value"] f_is_number) (D_is_client : DefQ P w K mg base 2 "is_client" ["value"] f_is_client) :
    FnOk P w K mg base (L2N.CX P w) 7 f fd ["value"] (spF K f__is_row) := by
  rw [f__is_row_eq]
  exact fn_w F sc__is_row (by decide) fun cdv A outer s H E hr tk po pa => (qss_cons (qs_if (QW.qt (qw_or (qt_not (qt_val (qe_isi .tup (by rfl) z_isinstance (by rfl) z_tuple (by decide +kernel) (qv 0)))) (qw_or1 (qt_cmp (opU_neq hr.units) (qe_b cb_len (by rfl) z_len (by decide +kernel) (qa_cons (qv 0) qa_nil)) qe_int (nomark _))))) (qss_one (qs_ret qe_bl)) qss_nil)
      (qss_cons (qs_asg (qv 0) (qg_tup (by rfl) (qgs_cons (qg_name (i := 1) sc__is_row.nd rfl (Or.inl rfl)) (qgs_cons (qg_name (i := 2) sc__is_row.nd rfl (Or.inl rfl)) (qgs_cons (qg_name (i := 3) sc__is_row.nd rfl (Or.inl rfl)) qgs_nil)))))
      (qss_one (qs_ret (qe_and (qe_call tk.px D_is_client (hr.mono (by decide)) (by rfl) (qa_cons (qv 1) qa_nil)) (qe_and (qe_call tk.px D_is_number (hr.mono (by decide)) (by rfl) (qa_cons (qv 2) qa_nil)) (qe_one (qe_call tk.px D_is_answer (hr.mono (by decide)) (by rfl) (qa_cons (qv 3) qa_nil)))))))))
theorem sc_is_rows : FnScope ["value", "last", "row"] ["value"] (defScope s_is_rows) := ⟨rfl, rfl, rfl, by decide +kernel, rfl, by decide +kernel, by decide +kernel⟩
theorem ok_is_rows {f : Addr} {fd : FuncData} (F : FnM K "is_rows" "is_rows" s_is_rows f fd) (z_isinstance : mg "isinstance" = none) (z_tuple : mg "tuple" = none) (D__is_row : DefQ P w K mg base 7 "_is_row" ["value"] f__is_row) :
    FnOk P w K mg base (L2N.CX P w) 8 f fd ["value"] (spF K f_is_rows) := by
  rw [f_is_rows_eq]
  exact fn_w F sc_is_rows (by decide) fun cdv A outer s H E hr tk po pa => (qss_cons (qs_if (qt_not (qt_val (qe_isi .tup (by rfl) z_isinstance (by rfl) z_tuple (by decide +kernel) (qv 0)))) (qss_one (qs_ret qe_bl)) qss_nil)
      (qss_cons (qs_set (i := 1) sc_is_rows.nd rfl (Or.inl rfl) qe_non)
      (qss_cons (qs_for po (by rfl) (qi_seq (qv 0)) (qg_name (i := 2) sc_is_rows.nd rfl (Or.inl rfl)) (qss_cons (qs_if (QW.qt (qw_or (qt_not (qt_val (qe_call tk.px D__is_row (hr.mono (by decide)) (by rfl) (qa_cons (qv 2) qa_nil)))) (qw_or1 (QW.qt (qw_and (qt_cmp opU_isnt (qv 1) qe_non (nomark _)) (qw_and1 (qt_cmp opU_le (qe_ix hr.units (qv 2) qe_int (fun _ _ => rfl)) (qv 1) (nomark _)))))))) (qss_one (qs_ret qe_bl)) qss_nil)
      (qss_one (qs_set (i := 1) sc_is_rows.nd rfl (Or.inl rfl) (qe_ix hr.units (qv 2) qe_int (fun _ _ => rfl))))))
      (qss_one (qs_ret qe_bl)))))
theorem sc_Sessions___init__ : FnScope ["self"] ["self"] (defScope s_Sessions___init__) := ⟨rfl, rfl, rfl, by decide +kernel, rfl, by decide +kernel, by decide +kernel⟩
theorem ok_Sessions___init__ {f : Addr} {fd : FuncData} (F : FnM K "__init__" "Sessions.__init__" s_Sessions___init__ f fd) (l_Sessions : Cls K (He.ga K "Sessions")) (n_Sessions__last : NoAttr K (He.ga K "Sessions") "_last") :
    FnOk P w K mg base (L2N.CX P w) 1 f fd ["self"] (spF K f_Sessions___init__) := by
  rw [f_Sessions___init___eq]
  exact fn_w F sc_Sessions___init__ (by decide) fun cdv A outer s H E hr tk po pa => (qss_one (qs_fld (fld1 l_Sessions n_Sessions__last) (qv 0) qe_dk rfl))
theorem sc_Sessions_status : FnScope ["self", "client", "number", "last"] ["self", "client", "number"] (defScope s_Sessions_status) := ⟨rfl, rfl, rfl, by decide +kernel, rfl, by decide +kernel, by decide +kernel⟩
theorem ok_Sessions_status {f : Addr} {fd : FuncData} (F : FnM K "status" "Sessions.status" s_Sessions_status f fd) (l_Sessions : Cls K (He.ga K "Sessions")) (n_Sessions__last : NoAttr K (He.ga K "Sessions") "_last") :
    FnOk P w K mg base (L2N.CX P w) 1 f fd ["self", "client", "number"] (spF K f_Sessions_status) := by
  rw [f_Sessions_status_eq]
  exact fn_w F sc_Sessions_status (by decide) fun cdv A outer s H E hr tk po pa => (qss_cons (qs_if (qt_cmp (opU_nin hr.units) (qv 1) (qe_fld (fld1 l_Sessions n_Sessions__last) (qv 0) rfl) (by rfl)) (qss_one (qs_ret qe_str)) qss_nil)
      (qss_cons (qs_set (i := 3) sc_Sessions_status.nd rfl (Or.inl rfl) (qe_ix hr.units (qe_ix hr.units (qe_fld (fld1 l_Sessions n_Sessions__last) (qv 0) rfl) (qv 1) (fun _ _ => rfl)) qe_int (fun _ _ => rfl)))
      (qss_cons (qs_if (qt_cmp (opU_equ hr.units) (qv 2) (qv 3) (nomark _)) (qss_one (qs_ret qe_str)) qss_nil)
      (qss_one (qs_ret (qe_if (qt_cmp opU_gt (qv 2) (qv 3) (nomark _)) qe_str qe_str))))))
theorem sc_Sessions_answer : FnScope ["self", "client"] ["self", "client"] (defScope s_Sessions_answer) := ⟨rfl, rfl, rfl, by decide +kernel, rfl, by decide +kernel, by decide +kernel⟩
theorem ok_Sessions_answer {f : Addr} {fd : FuncData} (F : FnM K "answer" "Sessions.answer" s_Sessions_answer f fd) (l_Sessions : Cls K (He.ga K "Sessions")) (n_Sessions__last : NoAttr K (He.ga K "Sessions") "_last") (x_BadShard : ExcQ K mg "BadShard") :
    FnOk P w K mg base (L2N.CX P w) 1 f fd ["self", "client"] (spF K f_Sessions_answer) := by
  rw [f_Sessions_answer_eq]
  exact fn_w F sc_Sessions_answer (by decide) fun cdv A outer s H E hr tk po pa => (qss_cons (qs_if (qt_cmp (opU_nin hr.units) (qv 1) (qe_fld (fld1 l_Sessions n_Sessions__last) (qv 0) rfl) (by rfl)) (qss_one (qs_raise x_BadShard (by rfl) tk (by rfl))) qss_nil)
      (qss_one (qs_ret (qe_ix hr.units (qe_ix hr.units (qe_fld (fld1 l_Sessions n_Sessions__last) (qv 0) rfl) (qv 1) (fun _ _ => rfl)) qe_int (fun _ _ => rfl)))))
theorem sc_Sessions_remember : FnScope ["self", "client", "number", "answer"] ["self", "client", "number", "answer"] (defScope s_Sessions_remember) := ⟨rfl, rfl, rfl, by decide +kernel, rfl, by decide +kernel, by decide +kernel⟩
theorem ok_Sessions_remember {f : Addr} {fd : FuncData} (F : FnM K "remember" "Sessions.remember" s_Sessions_remember f fd) (M_Sessions_status : MetQ P w K mg base 1 "Sessions" "status" ["self", "client", "number"] f_Sessions_status) (x_BadShard : ExcQ K mg "BadShard") (l_Sessions : Cls K (He.ga K "Sessions")) (n_Sessions__last : NoAttr K (He.ga K "Sessions") "_last") :
    FnOk P w K mg base (L2N.CX P w) 2 f fd ["self", "client", "number", "answer"] (spF K f_Sessions_remember) := by
  rw [f_Sessions_remember_eq]
  exact fn_w F sc_Sessions_remember (by decide) fun cdv A outer s H E hr tk po pa => (qss_cons (qs_if (qt_cmp (opU_neq hr.units) (qe_met tk.px (mets1 M_Sessions_status) (hr.mono (by decide)) (qv 0) (qa_cons (qv 1) (qa_cons (qv 2) qa_nil))) qe_str (nomark _)) (qss_one (qs_raise x_BadShard (by rfl) tk (by rfl))) qss_nil)
      (qss_one (qs_put (hu_of hr) (qe_fld (fld1 l_Sessions n_Sessions__last) (qv 0) rfl) (qv 1) (qe_tup (qa_cons (qv 1) (qa_cons (qv 2) (qa_cons (qv 3) qa_nil)))))))
theorem sc_Sessions_rows : FnScope ["self", "client"] ["self"] (defScope s_Sessions_rows) := ⟨rfl, rfl, rfl, by decide +kernel, rfl, by decide +kernel, by decide +kernel⟩
theorem ok_Sessions_rows {f : Addr} {fd : FuncData} (F : FnM K "rows" "Sessions.rows" s_Sessions_rows f fd) (z_tuple : mg "tuple" = none) (z_sorted : mg "sorted" = none) (l_Sessions : Cls K (He.ga K "Sessions")) (n_Sessions__last : NoAttr K (He.ga K "Sessions") "_last") :
    FnOk P w K mg base (L2N.CX P w) 1 f fd ["self"] (spF K f_Sessions_rows) := by
  rw [f_Sessions_rows_eq]
  exact fn_w F sc_Sessions_rows (by decide) fun cdv A outer s H E hr tk po pa => (qss_one (qs_ret (qe_ty cb_tup (by rfl) z_tuple (by decide +kernel) (qa_cons (qe_lcV (own := [("client", 1)]) (by rfl) sc_Sessions_rows.nd (qi_seq (qe_b (cb_sdI rfl) (by rfl) z_sorted (by decide +kernel) (qa_cons (qe_fld (fld1 l_Sessions n_Sessions__last) (qv 0) rfl) qa_nil))) (blkOk_by (own := [("client", 1)]) (N := ["self", "client"]) (sc := defScope s_Sessions_rows) (by decide +kernel)) (fun _ _ _ _ _ => qgv_name (i := 1) sc_Sessions_rows.nd rfl (Or.inl rfl)) (fun _ _ _ _ _ => qts_nil) (fun _ _ _ _ _ => (qe_ix hr.units (qe_fld (fld1 l_Sessions n_Sessions__last) (qv 0) rfl) (qv 1) (fun _ _ => rfl)))) qa_nil))))
theorem sc_Sessions_merged : FnScope ["self", "other"] ["self", "other"] (defScope s_Sessions_merged) := ⟨rfl, rfl, rfl, by decide +kernel, rfl, by decide +kernel, by decide +kernel⟩
theorem ok_Sessions_merged {f : Addr} {fd : FuncData} (F : FnM K "merged" "Sessions.merged" s_Sessions_merged f fd) (D__wall : DefQ P w K mg base 1 "_wall" ["k"] f__wall) :
    FnOk P w K mg base (L2N.CX P w) 2 f fd ["self", "other"] (spF K f_Sessions_merged_2) := by
  rw [f_Sessions_merged_2_eq]
  exact fn_w F sc_Sessions_merged (by decide) fun cdv A outer s H E hr tk po pa => (qss_one (qs_expr (qe_call tk.px D__wall (hr.mono (by decide)) (by rfl) (qa_cons qe_int qa_nil))))
theorem sc_Sessions_clone : FnScope ["self"] ["self"] (defScope s_Sessions_clone) := ⟨rfl, rfl, rfl, by decide +kernel, rfl, by decide +kernel, by decide +kernel⟩
theorem ok_Sessions_clone {f : Addr} {fd : FuncData} (F : FnM K "clone" "Sessions.clone" s_Sessions_clone f fd) (D__wall : DefQ P w K mg base 1 "_wall" ["k"] f__wall) :
    FnOk P w K mg base (L2N.CX P w) 2 f fd ["self"] (spF K f_Sessions_clone_2) := by
  rw [f_Sessions_clone_2_eq]
  exact fn_w F sc_Sessions_clone (by decide) fun cdv A outer s H E hr tk po pa => (qss_one (qs_expr (qe_call tk.px D__wall (hr.mono (by decide)) (by rfl) (qa_cons qe_int qa_nil))))
theorem sc_Shard___init__ : FnScope ["self", "low", "high", "epoch"] ["self", "low", "high", "epoch"] (defScope s_Shard___init__) := ⟨rfl, rfl, rfl, by decide +kernel, rfl, by decide +kernel, by decide +kernel⟩
theorem ok_Shard___init__ {f : Addr} {fd : FuncData} (F : FnM K "__init__" "Shard.__init__" s_Shard___init__ f fd) (c_MOST_NUMBER : ∃ t, mg "MOST_NUMBER" = some (.int 1000000000000 t)) (D_is_integer : DefQ P w K mg base 1 "is_integer" ["value", "least", "greatest"] f_is_integer) (D_is_range : DefQ P w K mg base 3 "is_range" ["low", "high"] f_is_range) (x_BadShard : ExcQ K mg "BadShard") (l_Shard : Cls K (He.ga K "Shard")) (n_Shard_low : NoAttr K (He.ga K "Shard") "low") (n_Shard_high : NoAttr K (He.ga K "Shard") "high") (n_Shard_epoch : NoAttr K (He.ga K "Shard") "epoch") (n_Shard__items : NoAttr K (He.ga K "Shard") "_items") (K_Sessions : MakQ P w K mg base 1 "Sessions" ["self"] f_Sessions___init__) (n_Shard__sessions : NoAttr K (He.ga K "Shard") "_sessions") :
    FnOk P w K mg base (L2N.CX P w) 4 f fd ["self", "low", "high", "epoch"] (spF K f_Shard___init__) := by
  rw [f_Shard___init___eq]
  exact fn_w F sc_Shard___init__ (by decide) fun cdv A outer s H E hr tk po pa => (qss_cons (qs_if (QW.qt (qw_or (qt_not (qt_val (qe_call tk.px D_is_range (hr.mono (by decide)) (by rfl) (qa_cons (qv 1) (qa_cons (qv 2) qa_nil))))) (qw_or1 (qt_not (qt_val (qe_call tk.px D_is_integer (hr.mono (by decide)) (by rfl) (qa_cons (qv 3) (qa_cons qe_int (qa_cons (qe_gint (by rfl) c_MOST_NUMBER) qa_nil))))))))) (qss_one (qs_raise x_BadShard (by rfl) tk (by rfl))) qss_nil)
      (qss_cons (qs_fld (fld1 l_Shard n_Shard_low) (qv 0) (qv 1) rfl)
      (qss_cons (qs_fld (fld1 l_Shard n_Shard_high) (qv 0) (qv 2) rfl)
      (qss_cons (qs_fld (fld1 l_Shard n_Shard_epoch) (qv 0) (qv 3) rfl)
      (qss_cons (qs_fld (fld1 l_Shard n_Shard__items) (qv 0) qe_dk rfl)
      (qss_one (qs_fld (fld1 l_Shard n_Shard__sessions) (qv 0) (qe_mak0 tk.px K_Sessions (hr.mono (by decide)) (by rfl)) rfl)))))))
theorem sc_Shard_has : FnScope ["self", "place"] ["self", "place"] (defScope s_Shard_has) := ⟨rfl, rfl, rfl, by decide +kernel, rfl, by decide +kernel, by decide +kernel⟩
theorem ok_Shard_has {f : Addr} {fd : FuncData} (F : FnM K "has" "Shard.has" s_Shard_has f fd) (l_Shard : Cls K (He.ga K "Shard")) (n_Shard_high : NoAttr K (He.ga K "Shard") "high") (n_Shard_low : NoAttr K (He.ga K "Shard") "low") (D_contains : DefQ P w K mg base 2 "contains" ["low", "high", "bound"] f_contains) :
    FnOk P w K mg base (L2N.CX P w) 3 f fd ["self", "place"] (spF K f_Shard_has) := by
  rw [f_Shard_has_eq]
  exact fn_w F sc_Shard_has (by decide) fun cdv A outer s H E hr tk po pa => (qss_one (qs_ret (qe_call tk.px D_contains (hr.mono (by decide)) (by rfl) (qa_cons (qe_fld (fld1 l_Shard n_Shard_low) (qv 0) rfl) (qa_cons (qe_fld (fld1 l_Shard n_Shard_high) (qv 0) rfl) (qa_cons (qv 1) qa_nil))))))
theorem sc_Shard_size : FnScope ["self"] ["self"] (defScope s_Shard_size) := ⟨rfl, rfl, rfl, by decide +kernel, rfl, by decide +kernel, by decide +kernel⟩
theorem ok_Shard_size {f : Addr} {fd : FuncData} (F : FnM K "size" "Shard.size" s_Shard_size f fd) (z_len : mg "len" = none) (l_Shard : Cls K (He.ga K "Shard")) (n_Shard__items : NoAttr K (He.ga K "Shard") "_items") :
    FnOk P w K mg base (L2N.CX P w) 1 f fd ["self"] (spF K f_Shard_size) := by
  rw [f_Shard_size_eq]
  exact fn_w F sc_Shard_size (by decide) fun cdv A outer s H E hr tk po pa => (qss_one (qs_ret (qe_b cb_len (by rfl) z_len (by decide +kernel) (qa_cons (qe_fld (fld1 l_Shard n_Shard__items) (qv 0) rfl) qa_nil))))
theorem sc_Shard_middle : FnScope ["self"] ["self"] (defScope s_Shard_middle) := ⟨rfl, rfl, rfl, by decide +kernel, rfl, by decide +kernel, by decide +kernel⟩
theorem ok_Shard_middle {f : Addr} {fd : FuncData} (F : FnM K "middle" "Shard.middle" s_Shard_middle f fd) (D__wall : DefQ P w K mg base 1 "_wall" ["k"] f__wall) :
    FnOk P w K mg base (L2N.CX P w) 2 f fd ["self"] (spF K f_Shard_middle_2) := by
  rw [f_Shard_middle_2_eq]
  exact fn_w F sc_Shard_middle (by decide) fun cdv A outer s H E hr tk po pa => (qss_one (qs_expr (qe_call tk.px D__wall (hr.mono (by decide)) (by rfl) (qa_cons qe_int qa_nil))))
theorem sc_Shard_status : FnScope ["self", "client", "number"] ["self", "client", "number"] (defScope s_Shard_status) := ⟨rfl, rfl, rfl, by decide +kernel, rfl, by decide +kernel, by decide +kernel⟩
theorem ok_Shard_status {f : Addr} {fd : FuncData} (F : FnM K "status" "Shard.status" s_Shard_status f fd) (l_Shard : Cls K (He.ga K "Shard")) (n_Shard__sessions : NoAttr K (He.ga K "Shard") "_sessions") (M_Sessions_status : MetQ P w K mg base 1 "Sessions" "status" ["self", "client", "number"] f_Sessions_status) :
    FnOk P w K mg base (L2N.CX P w) 2 f fd ["self", "client", "number"] (spF K f_Shard_status) := by
  rw [f_Shard_status_eq]
  exact fn_w F sc_Shard_status (by decide) fun cdv A outer s H E hr tk po pa => (qss_one (qs_ret (qe_met tk.px (mets1 M_Sessions_status) (hr.mono (by decide)) (qe_fld (fld1 l_Shard n_Shard__sessions) (qv 0) rfl) (qa_cons (qv 1) (qa_cons (qv 2) qa_nil)))))
theorem sc_Shard_answer : FnScope ["self", "client"] ["self", "client"] (defScope s_Shard_answer) := ⟨rfl, rfl, rfl, by decide +kernel, rfl, by decide +kernel, by decide +kernel⟩
theorem ok_Shard_answer {f : Addr} {fd : FuncData} (F : FnM K "answer" "Shard.answer" s_Shard_answer f fd) (l_Shard : Cls K (He.ga K "Shard")) (n_Shard__sessions : NoAttr K (He.ga K "Shard") "_sessions") (M_Sessions_answer : MetQ P w K mg base 1 "Sessions" "answer" ["self", "client"] f_Sessions_answer) :
    FnOk P w K mg base (L2N.CX P w) 2 f fd ["self", "client"] (spF K f_Shard_answer) := by
  rw [f_Shard_answer_eq]
  exact fn_w F sc_Shard_answer (by decide) fun cdv A outer s H E hr tk po pa => (qss_one (qs_ret (qe_met tk.px (mets1 M_Sessions_answer) (hr.mono (by decide)) (qe_fld (fld1 l_Shard n_Shard__sessions) (qv 0) rfl) (qa_cons (qv 1) qa_nil))))
theorem sc_Shard_serve : FnScope ["self", "client", "number", "op", "status"] ["self", "client", "number", "op"] (defScope s_Shard_serve) := ⟨rfl, rfl, rfl, by decide +kernel, rfl, by decide +kernel, by decide +kernel⟩
theorem ok_Shard_serve {f : Addr} {fd : FuncData} (F : FnM K "serve" "Shard.serve" s_Shard_serve f fd) (l_Shard : Cls K (He.ga K "Shard")) (n_Shard_high : NoAttr K (He.ga K "Shard") "high") (n_Shard_low : NoAttr K (He.ga K "Shard") "low") (D_is_within : DefQ P w K mg base 6 "is_within" ["op", "low", "high"] f_is_within) (x_BadShard : ExcQ K mg "BadShard") (M_Shard_status : MetQ P w K mg base 2 "Shard" "status" ["self", "client", "number"] f_Shard_status) (n_Shard__items : NoAttr K (He.ga K "Shard") "_items") (D_apply : DefQ P w K mg base 2 "apply" ["items", "op", "high"] f_apply) (n_Shard__sessions : NoAttr K (He.ga K "Shard") "_sessions") (M_Sessions_remember : MetQ P w K mg base 2 "Sessions" "remember" ["self", "client", "number", "answer"] f_Sessions_remember) (M_Shard_answer : MetQ P w K mg base 2 "Shard" "answer" ["self", "client"] f_Shard_answer) :
    FnOk P w K mg base (L2N.CX P w) 7 f fd ["self", "client", "number", "op"] (spF K f_Shard_serve) := by
  rw [f_Shard_serve_eq]
  exact fn_w F sc_Shard_serve (by decide) fun cdv A outer s H E hr tk po pa => (qss_cons (qs_if (qt_not (qt_val (qe_call tk.px D_is_within (hr.mono (by decide)) (by rfl) (qa_cons (qv 3) (qa_cons (qe_fld (fld1 l_Shard n_Shard_low) (qv 0) rfl) (qa_cons (qe_fld (fld1 l_Shard n_Shard_high) (qv 0) rfl) qa_nil)))))) (qss_one (qs_raise x_BadShard (by rfl) tk (by rfl))) qss_nil)
      (qss_cons (qs_set (i := 4) sc_Shard_serve.nd rfl (Or.inl rfl) (qe_met tk.px (mets1 M_Shard_status) (hr.mono (by decide)) (qv 0) (qa_cons (qv 1) (qa_cons (qv 2) qa_nil))))
      (qss_cons (qs_if (qt_cmp (opU_equ hr.units) (qv 4) qe_str (nomark _)) (qss_one (qs_ret (qe_tup (qa_cons (qv 4) qa_nil)))) qss_nil)
      (qss_jn (qs_if (qt_cmp (opU_equ hr.units) (qv 4) qe_str (nomark _)) (qss_one (qs_expr (qe_met tk.px (mets1 M_Sessions_remember) (hr.mono (by decide)) (qe_fld (fld1 l_Shard n_Shard__sessions) (qv 0) rfl) (qa_cons (qv 1) (qa_cons (qv 2) (qa_cons (qe_call tk.px D_apply (hr.mono (by decide)) (by rfl) (qa_cons (qe_fld (fld1 l_Shard n_Shard__items) (qv 0) rfl) (qa_cons (qv 3) (qa_cons (qe_fld (fld1 l_Shard n_Shard_high) (qv 0) rfl) qa_nil)))) qa_nil)))))) qss_nil)
      (qss_one (qs_ret (qe_tup (qa_cons (qv 4) (qa_cons (qe_met tk.px (mets1 M_Shard_answer) (hr.mono (by decide)) (qv 0) (qa_cons (qv 1) qa_nil)) qa_nil)))))))))
theorem sc_Shard_split : FnScope ["self", "at"] ["self", "at"] (defScope s_Shard_split) := ⟨rfl, rfl, rfl, by decide +kernel, rfl, by decide +kernel, by decide +kernel⟩
theorem ok_Shard_split {f : Addr} {fd : FuncData} (F : FnM K "split" "Shard.split" s_Shard_split f fd) (D__wall : DefQ P w K mg base 1 "_wall" ["k"] f__wall) :
    FnOk P w K mg base (L2N.CX P w) 2 f fd ["self", "at"] (spF K f_Shard_split_2) := by
  rw [f_Shard_split_2_eq]
  exact fn_w F sc_Shard_split (by decide) fun cdv A outer s H E hr tk po pa => (qss_one (qs_expr (qe_call tk.px D__wall (hr.mono (by decide)) (by rfl) (qa_cons qe_int qa_nil))))
theorem sc_Shard_join : FnScope ["self", "other"] ["self", "other"] (defScope s_Shard_join) := ⟨rfl, rfl, rfl, by decide +kernel, rfl, by decide +kernel, by decide +kernel⟩
theorem ok_Shard_join {f : Addr} {fd : FuncData} (F : FnM K "join" "Shard.join" s_Shard_join f fd) (D__wall : DefQ P w K mg base 1 "_wall" ["k"] f__wall) :
    FnOk P w K mg base (L2N.CX P w) 2 f fd ["self", "other"] (spF K f_Shard_join_2) := by
  rw [f_Shard_join_2_eq]
  exact fn_w F sc_Shard_join (by decide) fun cdv A outer s H E hr tk po pa => (qss_one (qs_expr (qe_call tk.px D__wall (hr.mono (by decide)) (by rfl) (qa_cons qe_int qa_nil))))
theorem sc_Shard_content : FnScope ["self", "pairs", "key"] ["self"] (defScope s_Shard_content) := ⟨rfl, rfl, rfl, by decide +kernel, rfl, by decide +kernel, by decide +kernel⟩
theorem ok_Shard_content {f : Addr} {fd : FuncData} (F : FnM K "content" "Shard.content" s_Shard_content f fd) (z_tuple : mg "tuple" = none) (z_sorted : mg "sorted" = none) (l_Shard : Cls K (He.ga K "Shard")) (n_Shard__items : NoAttr K (He.ga K "Shard") "_items") (n_Shard__sessions : NoAttr K (He.ga K "Shard") "_sessions") (M_Sessions_rows : MetQ P w K mg base 1 "Sessions" "rows" ["self"] f_Sessions_rows) :
    FnOk P w K mg base (L2N.CX P w) 2 f fd ["self"] (spF K f_Shard_content) := by
  rw [f_Shard_content_eq]
  exact fn_w F sc_Shard_content (by decide) fun cdv A outer s H E hr tk po pa => (qss_cons (qs_set (i := 1) sc_Shard_content.nd rfl (Or.inl rfl) (qe_ty cb_tup (by rfl) z_tuple (by decide +kernel) (qa_cons (qe_lcV (own := [("key", 2)]) (by rfl) sc_Shard_content.nd (qi_seq (qe_b (cb_sdS rfl) (by rfl) z_sorted (by decide +kernel) (qa_cons (qe_fld (fld1 l_Shard n_Shard__items) (qv 0) rfl) qa_nil))) (blkOk_by (own := [("key", 2)]) (N := ["self", "pairs", "key"]) (sc := defScope s_Shard_content) (by decide +kernel)) (fun _ _ _ _ _ => qgv_name (i := 2) sc_Shard_content.nd rfl (Or.inl rfl)) (fun _ _ _ _ _ => qts_nil) (fun _ _ _ _ _ => (qe_tup (qa_cons (qv 2) (qa_cons (qe_ix hr.units (qe_fld (fld1 l_Shard n_Shard__items) (qv 0) rfl) (qv 2) (fun _ _ => rfl)) qa_nil))))) qa_nil)))
      (qss_one (qs_ret (qe_tup (qa_cons (qv 1) (qa_cons (qe_met0 tk.px (mets1 M_Sessions_rows) (hr.mono (by decide)) (qe_fld (fld1 l_Shard n_Shard__sessions) (qv 0) rfl)) qa_nil))))))
theorem sc_Shard_clone : FnScope ["self"] ["self"] (defScope s_Shard_clone) := ⟨rfl, rfl, rfl, by decide +kernel, rfl, by decide +kernel, by decide +kernel⟩
theorem ok_Shard_clone {f : Addr} {fd : FuncData} (F : FnM K "clone" "Shard.clone" s_Shard_clone f fd) (D__wall : DefQ P w K mg base 1 "_wall" ["k"] f__wall) :
    FnOk P w K mg base (L2N.CX P w) 2 f fd ["self"] (spF K f_Shard_clone_2) := by
  rw [f_Shard_clone_2_eq]
  exact fn_w F sc_Shard_clone (by decide) fun cdv A outer s H E hr tk po pa => (qss_one (qs_expr (qe_call tk.px D__wall (hr.mono (by decide)) (by rfl) (qa_cons qe_int qa_nil))))
theorem sc_made : FnScope ["low", "high", "epoch", "pairs", "rows", "shard", "client", "number", "answer", "key", "value"] ["low", "high", "epoch", "pairs", "rows"] (defScope s_made) := ⟨rfl, rfl, rfl, by decide +kernel, rfl, by decide +kernel, by decide +kernel⟩
theorem ok_made {f : Addr} {fd : FuncData} (F : FnM K "made" "made" s_made f fd) (K_Shard : MakQ P w K mg base 4 "Shard" ["self", "low", "high", "epoch"] f_Shard___init__) (D_is_rows : DefQ P w K mg base 8 "is_rows" ["value"] f_is_rows) (D_is_pairs : DefQ P w K mg base 5 "is_pairs" ["low", "high", "value"] f_is_pairs) (x_BadShard : ExcQ K mg "BadShard") (l_Shard : Cls K (He.ga K "Shard")) (n_Shard__items : NoAttr K (He.ga K "Shard") "_items") (n_Shard__sessions : NoAttr K (He.ga K "Shard") "_sessions") (M_Sessions_remember : MetQ P w K mg base 2 "Sessions" "remember" ["self", "client", "number", "answer"] f_Sessions_remember) :
    FnOk P w K mg base (L2N.CX P w) 9 f fd ["low", "high", "epoch", "pairs", "rows"] (spF K f_made) := by
  rw [f_made_eq]
  exact fn_w F sc_made (by decide) fun cdv A outer s H E hr tk po pa => (qss_cons (qs_set (i := 5) sc_made.nd rfl (Or.inl rfl) (qe_mak tk.px K_Shard (hr.mono (by decide)) (by rfl) (qa_cons (qv 0) (qa_cons (qv 1) (qa_cons (qv 2) qa_nil)))))
      (qss_cons (qs_if (QW.qt (qw_or (qt_not (qt_val (qe_call tk.px D_is_pairs (hr.mono (by decide)) (by rfl) (qa_cons (qv 0) (qa_cons (qv 1) (qa_cons (qv 3) qa_nil)))))) (qw_or1 (qt_not (qt_val (qe_call tk.px D_is_rows (hr.mono (by decide)) (by rfl) (qa_cons (qv 4) qa_nil))))))) (qss_one (qs_raise x_BadShard (by rfl) tk (by rfl))) qss_nil)
      (qss_cons (qs_fld (fld1 l_Shard n_Shard__items) (qv 5) (qe_dc (own := [("key", 9), ("value", 10)]) (by rfl) sc_made.nd (qi_seq (qv 3)) (blkOk_by (own := [("key", 9), ("value", 10)]) (N := ["low", "high", "epoch", "pairs", "rows", "shard", "client", "number", "answer", "key", "value"]) (sc := defScope s_made) (by decide +kernel)) (fun _ _ _ _ _ => qgv_tup (by rfl) (qgvs_cons (qgv_name (i := 9) sc_made.nd rfl (Or.inl rfl)) (qgvs_cons (qgv_name (i := 10) sc_made.nd rfl (Or.inl rfl)) qgvs_nil))) (fun _ _ _ _ _ => qts_nil) (fun _ _ _ _ _ => (qv 9)) (fun _ _ _ _ _ => (qv 10))) rfl)
      (qss_cons (qs_for po (by rfl) (qi_seq (qv 4)) (qg_tup (by rfl) (qgs_cons (qg_name (i := 6) sc_made.nd rfl (Or.inl rfl)) (qgs_cons (qg_name (i := 7) sc_made.nd rfl (Or.inl rfl)) (qgs_cons (qg_name (i := 8) sc_made.nd rfl (Or.inl rfl)) qgs_nil)))) (qss_one (qs_expr (qe_met tk.px (mets1 M_Sessions_remember) (hr.mono (by decide)) (qe_fld (fld1 l_Shard n_Shard__sessions) (qv 5) rfl) (qa_cons (qv 6) (qa_cons (qv 7) (qa_cons (qv 8) qa_nil)))))))
      (qss_one (qs_ret (qv 5)))))))
theorem sc__law_cell : FnScope ["script", "k"] ["script", "k"] (defScope s__law_cell) := ⟨rfl, rfl, rfl, by decide +kernel, rfl, by decide +kernel, by decide +kernel⟩
theorem ok__law_cell {f : Addr} {fd : FuncData} (F : FnM K "_law_cell" "_law_cell" s__law_cell f fd) (z_len : mg "len" = none) (z_int : mg "int" = none) :
    FnOk P w K mg base (L2N.CX P w) 1 f fd ["script", "k"] (spF K f__law_cell_2) := by
  rw [f__law_cell_2_eq]
  exact fn_w F sc__law_cell (by decide) fun cdv A outer s H E hr tk po pa => (qss_cons (qs_if (qt_cmp opU_lt (qv 1) (qe_b cb_len (by rfl) z_len (by decide +kernel) (qa_cons (qv 0) qa_nil)) (nomark _)) (qss_one (qs_ret (qe_ty cb_int (by rfl) z_int (by decide +kernel) (qa_cons (qe_ix hr.units (qv 0) (qv 1) (fun _ _ => rfl)) qa_nil)))) qss_nil)
      (qss_one (qs_ret qe_int)))
theorem sc__law_rich : FnScope ["cell", "k", "mixed"] ["cell", "k"] (defScope s__law_rich) := ⟨rfl, rfl, rfl, by decide +kernel, rfl, by decide +kernel, by decide +kernel⟩
theorem ok__law_rich {f : Addr} {fd : FuncData} (F : FnM K "_law_rich" "_law_rich" s__law_rich f fd) (z_int : mg "int" = none) :
    FnOk P w K mg base (L2N.CX P w) 1 f fd ["cell", "k"] (spF K f__law_rich) := by
  rw [f__law_rich_eq]
  exact fn_w F sc__law_rich (by decide) fun cdv A outer s H E hr tk po pa => (qss_cons (qs_if (qt_cmp opU_ge (qv 0) (qe_op opU_pow qe_int qe_int) (nomark _)) (qss_one (qs_ret (qe_ty cb_int (by rfl) z_int (by decide +kernel) (qa_cons (qv 0) qa_nil)))) qss_nil)
      (qss_cons (qs_set (i := 2) sc__law_rich.nd rfl (Or.inl rfl) (qe_op opU_mod (qe_ty cb_int (by rfl) z_int (by decide +kernel) (qa_cons (qe_op opU_add (qe_op opU_add (qe_op opU_mul (qv 0) qe_int) (qe_op opU_mul (qv 1) qe_int)) qe_int) qa_nil)) qe_int))
      (qss_one (qs_ret (qe_op opU_add (qe_op opU_mul (qv 2) qe_int) (qe_op opU_mod (qe_ty cb_int (by rfl) z_int (by decide +kernel) (qa_cons (qe_op opU_add (qe_op opU_mul (qv 2) qe_int) (qv 0)) qa_nil)) qe_int))))))
theorem sc__law_word : FnScope ["size", "chars", "seed", "word", "rest", "k"] ["size", "chars", "seed"] (defScope s__law_word) := ⟨rfl, rfl, rfl, by decide +kernel, rfl, by decide +kernel, by decide +kernel⟩
theorem ok__law_word {f : Addr} {fd : FuncData} (F : FnM K "_law_word" "_law_word" s__law_word f fd) (z_int : mg "int" = none) (z_range : mg "range" = none) (z_len : mg "len" = none) :
    FnOk P w K mg base (L2N.CX P w) 1 f fd ["size", "chars", "seed"] (spF K f__law_word) := by
  rw [f__law_word_eq]
  exact fn_w F sc__law_word (by decide) fun cdv A outer s H E hr tk po pa => (qss_cons (qs_set (i := 3) sc__law_word.nd rfl (Or.inl rfl) qe_str)
      (qss_cons (qs_set (i := 4) sc__law_word.nd rfl (Or.inl rfl) (qe_ty cb_int (by rfl) z_int (by decide +kernel) (qa_cons (qv 2) qa_nil)))
      (qss_cons (qs_for po (by rfl) (qi_range1 (by rfl) z_range (qa_cons (qv 0) qa_nil)) (qg_name (i := 5) sc__law_word.nd rfl (Or.inl rfl)) (qss_cons (qs_set (i := 3) sc__law_word.nd rfl (Or.inl rfl) (qe_op opU_add (qv 3) (qe_ix hr.units (qv 1) (qe_op opU_mod (qe_ty cb_int (by rfl) z_int (by decide +kernel) (qa_cons (qv 4) qa_nil)) (qe_b cb_len (by rfl) z_len (by decide +kernel) (qa_cons (qv 1) qa_nil))) (fun _ _ => rfl))))
      (qss_one (qs_set (i := 4) sc__law_word.nd rfl (Or.inl rfl) (qe_op opU_fdv (qv 4) (qe_b cb_len (by rfl) z_len (by decide +kernel) (qa_cons (qv 1) qa_nil)))))))
      (qss_one (qs_ret (qv 3))))))
theorem sc__law_key : FnScope ["rich"] ["rich"] (defScope s__law_key) := ⟨rfl, rfl, rfl, by decide +kernel, rfl, by decide +kernel, by decide +kernel⟩
theorem ok__law_key {f : Addr} {fd : FuncData} (F : FnM K "_law_key" "_law_key" s__law_key f fd) (z_int : mg "int" = none) (D__law_word : DefQ P w K mg base 1 "_law_word" ["size", "chars", "seed"] f__law_word) :
    FnOk P w K mg base (L2N.CX P w) 2 f fd ["rich"] (spF K f__law_key) := by
  rw [f__law_key_eq]
  exact fn_w F sc__law_key (by decide) fun cdv A outer s H E hr tk po pa => (qss_cons (qs_if (qt_cmp opU_lt (qe_op opU_mod (qe_ty cb_int (by rfl) z_int (by decide +kernel) (qa_cons (qv 0) qa_nil)) qe_int) qe_int (nomark _)) (qss_one (qs_ret (qe_ix hr.units (qe_lV (qa_cons qe_str (qa_cons qe_str (qa_cons qe_str (qa_cons qe_str (qa_cons qe_str (qa_cons qe_str (qa_cons qe_str (qa_cons qe_str qa_nil))))))))) (qe_op opU_mod (qe_op opU_fdv (qv 0) qe_int) qe_int) (fun _ _ => rfl)))) qss_nil)
      (qss_one (qs_ret (qe_call tk.px D__law_word (hr.mono (by decide)) (by rfl) (qa_cons (qe_op opU_add qe_int (qe_op opU_mod (qe_op opU_fdv (qv 0) qe_int) qe_int)) (qa_cons qe_str (qa_cons (qe_op opU_fdv (qv 0) qe_int) qa_nil)))))))
theorem sc__law_bound : FnScope ["rich"] ["rich"] (defScope s__law_bound) := ⟨rfl, rfl, rfl, by decide +kernel, rfl, by decide +kernel, by decide +kernel⟩
theorem ok__law_bound {f : Addr} {fd : FuncData} (F : FnM K "_law_bound" "_law_bound" s__law_bound f fd) (z_int : mg "int" = none) (D__law_key : DefQ P w K mg base 2 "_law_key" ["rich"] f__law_key) :
    FnOk P w K mg base (L2N.CX P w) 3 f fd ["rich"] (spF K f__law_bound) := by
  rw [f__law_bound_eq]
  exact fn_w F sc__law_bound (by decide) fun cdv A outer s H E hr tk po pa => (qss_cons (qs_if (qt_cmp (opU_equ hr.units) (qe_op opU_mod (qe_ty cb_int (by rfl) z_int (by decide +kernel) (qa_cons (qv 0) qa_nil)) qe_int) qe_int (nomark _)) (qss_one (qs_ret qe_str)) qss_nil)
      (qss_one (qs_ret (qe_call tk.px D__law_key (hr.mono (by decide)) (by rfl) (qa_cons (qe_op opU_fdv (qv 0) qe_int) qa_nil)))))
theorem sc__law_value : FnScope ["rich", "chars"] ["rich"] (defScope s__law_value) := ⟨rfl, rfl, rfl, by decide +kernel, rfl, by decide +kernel, by decide +kernel⟩
theorem ok__law_value {f : Addr} {fd : FuncData} (F : FnM K "_law_value" "_law_value" s__law_value f fd) (z_int : mg "int" = none) (D__law_word : DefQ P w K mg base 1 "_law_word" ["size", "chars", "seed"] f__law_word) :
    FnOk P w K mg base (L2N.CX P w) 2 f fd ["rich"] (spF K f__law_value) := by
  rw [f__law_value_eq]
  exact fn_w F sc__law_value (by decide) fun cdv A outer s H E hr tk po pa => (qss_cons (qs_if (qt_cmp opU_lt (qe_op opU_mod (qe_ty cb_int (by rfl) z_int (by decide +kernel) (qa_cons (qv 0) qa_nil)) qe_int) qe_int (nomark _)) (qss_one (qs_ret (qe_ix hr.units (qe_lV (qa_cons qe_str (qa_cons qe_str (qa_cons qe_str qa_nil)))) (qe_op opU_mod (qe_op opU_fdv (qv 0) qe_int) qe_int) (fun _ _ => rfl)))) qss_nil)
      (qss_cons (qs_set (i := 1) sc__law_value.nd rfl (Or.inl rfl) qe_str)
      (qss_one (qs_ret (qe_call tk.px D__law_word (hr.mono (by decide)) (by rfl) (qa_cons (qe_op opU_mod (qe_op opU_fdv (qv 0) qe_int) qe_int) (qa_cons (qv 1) (qa_cons (qe_op opU_fdv (qv 0) qe_int) qa_nil))))))))
theorem sc__law_range : FnScope ["rich", "one", "other"] ["rich"] (defScope s__law_range) := ⟨rfl, rfl, rfl, by decide +kernel, rfl, by decide +kernel, by decide +kernel⟩
theorem ok__law_range {f : Addr} {fd : FuncData} (F : FnM K "_law_range" "_law_range" s__law_range f fd) (D__law_bound : DefQ P w K mg base 3 "_law_bound" ["rich"] f__law_bound) (z_max : mg "max" = none) (z_min : mg "min" = none) :
    FnOk P w K mg base (L2N.CX P w) 4 f fd ["rich"] (spF K f__law_range_2) := by
  rw [f__law_range_2_eq]
  exact fn_w F sc__law_range (by decide) fun cdv A outer s H E hr tk po pa => (qss_cons (qs_set (i := 1) sc__law_range.nd rfl (Or.inl rfl) (qe_call tk.px D__law_bound (hr.mono (by decide)) (by rfl) (qa_cons (qv 0) qa_nil)))
      (qss_cons (qs_set (i := 2) sc__law_range.nd rfl (Or.inl rfl) (qe_call tk.px D__law_bound (hr.mono (by decide)) (by rfl) (qa_cons (qe_op opU_fdv (qv 0) qe_int) qa_nil)))
      (qss_cons (qs_if (QW.qt (qw_or (qt_cmp (opU_equ hr.units) (qv 1) (qv 2) (nomark _)) (qw_or1 (qt_cmp (opU_equ hr.units) (qe_op opU_mod (qe_op opU_fdv (qv 0) qe_int) qe_int) qe_int (nomark _))))) (qss_one (qs_ret (qe_tup (qa_cons (qv 1) (qa_cons qe_non qa_nil))))) qss_nil)
      (qss_one (qs_ret (qe_tup (qa_cons (qe_b (cb_min rfl) (by rfl) z_min (by decide +kernel) (qa_cons (qv 1) (qa_cons (qv 2) qa_nil))) (qa_cons (qe_b (cb_max rfl) (by rfl) z_max (by decide +kernel) (qa_cons (qv 1) (qa_cons (qv 2) qa_nil))) qa_nil))))))))
theorem sc__law_operation : FnScope ["rich", "kind", "rest", "key", "limit"] ["rich"] (defScope s__law_operation) := ⟨rfl, rfl, rfl, by decide +kernel, rfl, by decide +kernel, by decide +kernel⟩
theorem ok__law_operation {f : Addr} {fd : FuncData} (F : FnM K "_law_operation" "_law_operation" s__law_operation f fd) (D__law_bound : DefQ P w K mg base 3 "_law_bound" ["rich"] f__law_bound) (D__law_key : DefQ P w K mg base 2 "_law_key" ["rich"] f__law_key) (D__law_value : DefQ P w K mg base 2 "_law_value" ["rich"] f__law_value) :
    FnOk P w K mg base (L2N.CX P w) 4 f fd ["rich"] (spF K f__law_operation) := by
  rw [f__law_operation_eq]
  exact fn_w F sc__law_operation (by decide) fun cdv A outer s H E hr tk po pa => (qss_cons (qs_set (i := 1) sc__law_operation.nd rfl (Or.inl rfl) (qe_ix hr.units (qe_lV (qa_cons qe_str (qa_cons qe_str (qa_cons qe_str (qa_cons qe_str (qa_cons qe_str (qa_cons qe_str qa_nil))))))) (qe_op opU_mod (qv 0) qe_int) (fun _ _ => rfl)))
      (qss_cons (qs_set (i := 2) sc__law_operation.nd rfl (Or.inl rfl) (qe_op opU_fdv (qv 0) qe_int))
      (qss_cons (qs_if (qt_cmp (opU_equ hr.units) (qv 1) qe_str (nomark _)) (qss_cons (qs_set (i := 4) sc__law_operation.nd rfl (Or.inl rfl) (qe_op opU_add qe_int (qe_op opU_mod (qe_op opU_fdv (qv 2) qe_int) qe_int)))
      (qss_jn (qs_if (qt_cmp (opU_equ hr.units) (qe_op opU_mod (qe_op opU_fdv (qv 2) qe_int) qe_int) qe_int (nomark _)) (qss_one (qs_set (i := 4) sc__law_operation.nd rfl (Or.inl rfl) (qe_op opU_add qe_int (qe_op opU_mod (qe_op opU_fdv (qv 2) qe_int) qe_int)))) qss_nil)
      (qss_one (qs_ret (qe_tup (qa_cons (qv 1) (qa_cons (qe_call tk.px D__law_bound (hr.mono (by decide)) (by rfl) (qa_cons (qv 2) qa_nil)) (qa_cons (qv 4) qa_nil)))))))) qss_nil)
      (qss_cons (qs_set (i := 3) sc__law_operation.nd rfl (Or.inl rfl) (qe_call tk.px D__law_key (hr.mono (by decide)) (by rfl) (qa_cons (qv 2) qa_nil)))
      (qss_cons (qs_if (qt_cmp (opU_equ hr.units) (qv 1) qe_str (nomark _)) (qss_one (qs_ret (qe_tup (qa_cons (qv 1) (qa_cons (qv 3) (qa_cons (qe_call tk.px D__law_value (hr.mono (by decide)) (by rfl) (qa_cons (qe_op opU_fdv (qv 2) qe_int) qa_nil)) qa_nil)))))) qss_nil)
      (qss_cons (qs_if (qt_cmp (opU_equ hr.units) (qv 1) qe_str (nomark _)) (qss_one (qs_ret (qe_tup (qa_cons (qv 1) (qa_cons (qv 3) (qa_cons (qe_call tk.px D__law_value (hr.mono (by decide)) (by rfl) (qa_cons (qe_op opU_fdv (qv 2) qe_int) qa_nil)) (qa_cons (qe_call tk.px D__law_value (hr.mono (by decide)) (by rfl) (qa_cons (qe_op opU_fdv (qv 2) qe_int) qa_nil)) qa_nil))))))) qss_nil)
      (qss_one (qs_ret (qe_tup (qa_cons (qv 1) (qa_cons (qv 3) qa_nil)))))))))))
theorem sc__law_filled : FnScope ["script", "start", "low", "high", "epoch", "shard", "k", "rich", "key"] ["script", "start", "low", "high", "epoch"] (defScope s__law_filled) := ⟨rfl, rfl, rfl, by decide +kernel, rfl, by decide +kernel, by decide +kernel⟩
theorem ok__law_filled {f : Addr} {fd : FuncData} (F : FnM K "_law_filled" "_law_filled" s__law_filled f fd) (K_Shard : MakQ P w K mg base 4 "Shard" ["self", "low", "high", "epoch"] f_Shard___init__) (z_range : mg "range" = none) (z_min : mg "min" = none) (z_len : mg "len" = none) (D__law_rich : DefQ P w K mg base 1 "_law_rich" ["cell", "k"] f__law_rich) (D__law_key : DefQ P w K mg base 2 "_law_key" ["rich"] f__law_key) (M_Shard_has : MetQ P w K mg base 3 "Shard" "has" ["self", "place"] f_Shard_has) (D__law_value : DefQ P w K mg base 2 "_law_value" ["rich"] f__law_value) (M_Shard_serve : MetQ P w K mg base 7 "Shard" "serve" ["self", "client", "number", "op"] f_Shard_serve) :
    FnOk P w K mg base (L2N.CX P w) 8 f fd ["script", "start", "low", "high", "epoch"] (spF K f__law_filled) := by
  rw [f__law_filled_eq]
  exact fn_w F sc__law_filled (by decide) fun cdv A outer s H E hr tk po pa => (qss_cons (qs_set (i := 5) sc__law_filled.nd rfl (Or.inl rfl) (qe_mak tk.px K_Shard (hr.mono (by decide)) (by rfl) (qa_cons (qv 2) (qa_cons (qv 3) (qa_cons (qv 4) qa_nil)))))
      (qss_cons (qs_for po (by rfl) (qi_range2 (by rfl) z_range (qa_cons (qv 1) (qa_cons (qe_b (cb_min rfl) (by rfl) z_min (by decide +kernel) (qa_cons (qe_b cb_len (by rfl) z_len (by decide +kernel) (qa_cons (qv 0) qa_nil)) (qa_cons (qe_op opU_add (qv 1) qe_int) qa_nil))) qa_nil))) (qg_name (i := 6) sc__law_filled.nd rfl (Or.inl rfl)) (qss_cons (qs_set (i := 7) sc__law_filled.nd rfl (Or.inl rfl) (qe_call tk.px D__law_rich (hr.mono (by decide)) (by rfl) (qa_cons (qe_ix hr.units (qv 0) (qv 6) (fun _ _ => rfl)) (qa_cons (qv 6) qa_nil))))
      (qss_cons (qs_set (i := 8) sc__law_filled.nd rfl (Or.inl rfl) (qe_call tk.px D__law_key (hr.mono (by decide)) (by rfl) (qa_cons (qe_op opU_fdv (qv 7) qe_int) qa_nil)))
      (qss_jn (qs_if (qt_not (qt_val (qe_met tk.px (mets1 M_Shard_has) (hr.mono (by decide)) (qv 5) (qa_cons (qv 8) qa_nil)))) (qss_one (qs_set (i := 8) sc__law_filled.nd rfl (Or.inl rfl) (qe_if (qt_cmp (opU_neq hr.units) (qv 2) qe_str (nomark _)) (qv 2) qe_str))) qss_nil)
      (qss_one (qs_if (qt_val (qe_met tk.px (mets1 M_Shard_has) (hr.mono (by decide)) (qv 5) (qa_cons (qv 8) qa_nil))) (qss_one (qs_expr (qe_met tk.px (mets1 M_Shard_serve) (hr.mono (by decide)) (qv 5) (qa_cons (qe_op opU_sub (qe_un unU_neg qe_int) (qe_op opU_mod (qv 7) qe_int)) (qa_cons (qe_op opU_add qe_int (qv 6)) (qa_cons (qe_tup (qa_cons qe_str (qa_cons (qv 8) (qa_cons (qe_call tk.px D__law_value (hr.mono (by decide)) (by rfl) (qa_cons (qe_op opU_fdv (qv 7) qe_int) qa_nil)) qa_nil)))) qa_nil)))))) qss_nil))))))
      (qss_one (qs_ret (qv 5)))))
theorem sc__law_spoilt : FnScope ["parts", "rich", "choice", "rest", "odd", "bad"] ["parts", "rich"] (defScope s__law_spoilt) := ⟨rfl, rfl, rfl, by decide +kernel, rfl, by decide +kernel, by decide +kernel⟩
theorem ok__law_spoilt {f : Addr} {fd : FuncData} (F : FnM K "_law_spoilt" "_law_spoilt" s__law_spoilt f fd) (z_list : mg "list" = none) (z_len : mg "len" = none) :
    FnOk P w K mg base (L2N.CX P w) 1 f fd ["parts", "rich"] (spF K f__law_spoilt) := by
  rw [f__law_spoilt_eq]
  exact fn_w F sc__law_spoilt (by decide) fun cdv A outer s H E hr tk po pa => (qss_cons (qs_set (i := 2) sc__law_spoilt.nd rfl (Or.inl rfl) (qe_op opU_mod (qv 1) qe_int))
      (qss_cons (qs_set (i := 3) sc__law_spoilt.nd rfl (Or.inl rfl) (qe_op opU_fdv (qv 1) qe_int))
      (qss_cons (qs_set (i := 4) sc__law_spoilt.nd rfl (Or.inl rfl) (qe_ix hr.units (qe_lV (qa_cons qe_non (qa_cons qe_int (qa_cons (qe_un unU_neg qe_int) (qa_cons qe_bl (qa_cons qe_str (qa_cons (qe_tup qa_nil) (qa_cons (qe_lV qa_nil) (qa_cons (qe_tup (qa_cons qe_str qa_nil)) (qa_cons (qe_op opU_add (qe_op opU_pow qe_int qe_int) qe_int) (qa_cons qe_str qa_nil))))))))))) (qe_op opU_mod (qv 3) qe_int) (fun _ _ => rfl)))
      (qss_cons (qs_if (qt_cmp opU_lt (qv 2) qe_int (nomark _)) (qss_one (qs_ret (qe_op opU_add (qe_op opU_add (qe_sl (qv 0) qo_none (qo_some (qv 2))) (qe_lV (qa_cons (qv 4) qa_nil))) (qe_sl (qv 0) (qo_some (qe_op opU_add (qv 2) qe_int)) qo_none)))) qss_nil)
      (qss_cons (qs_if (qt_cmp (opU_equ hr.units) (qv 2) qe_int (nomark _)) (qss_one (qs_ret (qe_op opU_add (qe_sl (qv 0) qo_none (qo_some qe_int)) (qe_lV (qa_cons (qe_op opU_add (qe_ix hr.units (qv 0) qe_int (fun _ _ => rfl)) (qe_sl (qe_ix hr.units (qv 0) qe_int (fun _ _ => rfl)) (qo_some (qe_un unU_neg qe_int)) qo_none)) (qa_cons (qe_ix hr.units (qv 0) qe_int (fun _ _ => rfl)) qa_nil)))))) qss_nil)
      (qss_cons (qs_if (qt_cmp (opU_equ hr.units) (qv 2) qe_int (nomark _)) (qss_one (qs_ret (qe_op opU_add (qe_sl (qv 0) qo_none (qo_some qe_int)) (qe_lV (qa_cons (qe_rev (qe_ix hr.units (qv 0) qe_int (fun _ _ => rfl))) (qa_cons (qe_ix hr.units (qv 0) qe_int (fun _ _ => rfl)) qa_nil)))))) qss_nil)
      (qss_cons (qs_if (qt_cmp (opU_equ hr.units) (qv 2) qe_int (nomark _)) (qss_one (qs_ret (qe_op opU_add (qe_sl (qv 0) qo_none (qo_some qe_int)) (qe_lV (qa_cons (qe_op opU_add (qe_ix hr.units (qv 0) qe_int (fun _ _ => rfl)) (qe_sl (qe_ix hr.units (qv 0) qe_int (fun _ _ => rfl)) qo_none (qo_some qe_int))) qa_nil))))) qss_nil)
      (qss_cons (qs_if (qt_cmp (opU_equ hr.units) (qv 2) qe_int (nomark _)) (qss_one (qs_ret (qe_op opU_add (qe_sl (qv 0) qo_none (qo_some qe_int)) (qe_lV (qa_cons (qe_rev (qe_ix hr.units (qv 0) qe_int (fun _ _ => rfl))) qa_nil))))) qss_nil)
      (qss_cons (qs_if (qt_cmp (opU_equ hr.units) (qv 2) qe_int (nomark _)) (qss_one (qs_ret (qe_op opU_add (qe_sl (qv 0) qo_none (qo_some qe_int)) (qe_lV (qa_cons (qe_ty cb_lsV (by rfl) z_list (by decide +kernel) (qa_cons (qe_ix hr.units (qv 0) qe_int (fun _ _ => rfl)) qa_nil)) (qa_cons (qe_ix hr.units (qv 0) qe_int (fun _ _ => rfl)) qa_nil)))))) qss_nil)
      (qss_cons (qs_if (QW.qt (qw_and (qt_cmp (opU_equ hr.units) (qv 2) qe_int (nomark _)) (qw_and1 (qt_cmp opU_gt (qe_b cb_len (by rfl) z_len (by decide +kernel) (qa_cons (qe_ix hr.units (qv 0) qe_int (fun _ _ => rfl)) qa_nil)) qe_int (nomark _))))) (qss_cons (qs_set (i := 5) sc__law_spoilt.nd rfl (Or.inl rfl) (qe_lV (qa_cons (qe_tup (qa_cons qe_str (qa_cons qe_str qa_nil))) (qa_cons (qe_tup (qa_cons (qe_ix hr.units (qe_ix hr.units (qe_ix hr.units (qv 0) qe_int (fun _ _ => rfl)) qe_int (fun _ _ => rfl)) qe_int (fun _ _ => rfl)) (qa_cons (qe_op opU_mul qe_str qe_int) qa_nil))) (qa_cons (qe_tup (qa_cons (qe_ix hr.units (qe_ix hr.units (qe_ix hr.units (qv 0) qe_int (fun _ _ => rfl)) qe_int (fun _ _ => rfl)) qe_int (fun _ _ => rfl)) (qa_cons qe_int qa_nil))) (qa_cons (qe_tup (qa_cons (qe_ix hr.units (qe_ix hr.units (qe_ix hr.units (qv 0) qe_int (fun _ _ => rfl)) qe_int (fun _ _ => rfl)) qe_int (fun _ _ => rfl)) qa_nil)) (qa_cons (qe_lV (qa_cons (qe_ix hr.units (qe_ix hr.units (qe_ix hr.units (qv 0) qe_int (fun _ _ => rfl)) qe_int (fun _ _ => rfl)) qe_int (fun _ _ => rfl)) (qa_cons qe_str qa_nil))) qa_nil)))))))
      (qss_one (qs_ret (qe_op opU_add (qe_sl (qv 0) qo_none (qo_some qe_int)) (qe_lV (qa_cons (qe_op opU_add (qe_tup (qa_cons (qe_ix hr.units (qv 5) (qe_op opU_mod (qv 3) qe_int) (fun _ _ => rfl)) qa_nil)) (qe_sl (qe_ix hr.units (qv 0) qe_int (fun _ _ => rfl)) (qo_some qe_int) qo_none)) (qa_cons (qe_ix hr.units (qv 0) qe_int (fun _ _ => rfl)) qa_nil))))))) qss_nil)
      (qss_cons (qs_if (QW.qt (qw_and (qt_cmp (opU_equ hr.units) (qv 2) qe_int (nomark _)) (qw_and1 (qt_cmp opU_gt (qe_b cb_len (by rfl) z_len (by decide +kernel) (qa_cons (qe_ix hr.units (qv 0) qe_int (fun _ _ => rfl)) qa_nil)) qe_int (nomark _))))) (qss_cons (qs_set (i := 5) sc__law_spoilt.nd rfl (Or.inl rfl) (qe_lV (qa_cons (qe_tup (qa_cons qe_int (qa_cons qe_int (qa_cons (qe_tup (qa_cons qe_str qa_nil)) qa_nil)))) (qa_cons (qe_tup (qa_cons (qe_un unU_neg qe_int) (qa_cons qe_int (qa_cons (qe_tup (qa_cons qe_str qa_nil)) qa_nil)))) (qa_cons (qe_tup (qa_cons (qe_un unU_neg qe_int) (qa_cons qe_int (qa_cons (qe_tup (qa_cons qe_str qa_nil)) qa_nil)))) (qa_cons (qe_tup (qa_cons (qe_un unU_neg qe_int) (qa_cons (qe_op opU_add (qe_op opU_pow qe_int qe_int) qe_int) (qa_cons (qe_tup (qa_cons qe_str qa_nil)) qa_nil)))) (qa_cons (qe_tup (qa_cons (qe_un unU_neg qe_int) (qa_cons qe_int (qa_cons qe_str qa_nil)))) qa_nil)))))))
      (qss_cons (qs_set (i := 5) sc__law_spoilt.nd rfl (Or.inl rfl) (qe_op opU_add (qv 5) (qe_lV (qa_cons (qe_tup (qa_cons (qe_un unU_neg qe_int) (qa_cons qe_int (qa_cons (qe_tup (qa_cons qe_str (qa_cons qe_int qa_nil))) qa_nil)))) (qa_cons (qe_tup (qa_cons (qe_un unU_neg qe_int) (qa_cons qe_bl (qa_cons (qe_tup (qa_cons qe_str qa_nil)) qa_nil)))) (qa_cons (qe_tup (qa_cons (qe_un unU_neg qe_int) (qa_cons qe_int qa_nil))) qa_nil))))))
      (qss_one (qs_ret (qe_op opU_add (qe_sl (qv 0) qo_none (qo_some qe_int)) (qe_lV (qa_cons (qe_op opU_add (qe_tup (qa_cons (qe_ix hr.units (qv 5) (qe_op opU_mod (qv 3) qe_int) (fun _ _ => rfl)) qa_nil)) (qe_ix hr.units (qv 0) qe_int (fun _ _ => rfl))) qa_nil))))))) qss_nil)
      (qss_cons (qs_if (QW.qt (qw_and (qt_cmp (opU_equ hr.units) (qv 2) qe_int (nomark _)) (qw_and1 (qt_cmp opU_gt (qe_b cb_len (by rfl) z_len (by decide +kernel) (qa_cons (qe_ix hr.units (qv 0) qe_int (fun _ _ => rfl)) qa_nil)) qe_int (nomark _))))) (qss_one (qs_ret (qe_op opU_add (qe_lV (qa_cons (qe_op opU_add (qe_ix hr.units (qe_ix hr.units (qe_ix hr.units (qv 0) qe_int (fun _ _ => rfl)) qe_int (fun _ _ => rfl)) qe_int (fun _ _ => rfl)) (qe_sl qe_str qo_none (qo_some (qe_op opU_sub qe_int (qe_b cb_len (by rfl) z_len (by decide +kernel) (qa_cons (qe_ix hr.units (qe_ix hr.units (qe_ix hr.units (qv 0) qe_int (fun _ _ => rfl)) qe_int (fun _ _ => rfl)) qe_int (fun _ _ => rfl)) qa_nil)))))) qa_nil)) (qe_sl (qv 0) (qo_some qe_int) qo_none)))) qss_nil)
      (qss_one (qs_ret (qv 0)))))))))))))))
theorem sc__law_is_bound : FnScope ["value", "char"] ["value"] (defScope s__law_is_bound) := ⟨rfl, rfl, rfl, by decide +kernel, rfl, by decide +kernel, by decide +kernel⟩
theorem ok__law_is_bound {f : Addr} {fd : FuncData} (F : FnM K "_law_is_bound" "_law_is_bound" s__law_is_bound f fd) (z_len : mg "len" = none) (z_isinstance : mg "isinstance" = none) (z_str : mg "str" = none) (z_all : mg "all" = none) :
    FnOk P w K mg base (L2N.CX P w) 1 f fd ["value"] (spF K f__law_is_bound) := by
  rw [f__law_is_bound_eq]
  exact fn_w F sc__law_is_bound (by decide) fun cdv A outer s H E hr tk po pa => (qss_cons (qs_if (QW.qt (qw_or (qt_not (qt_val (qe_isi .str (by rfl) z_isinstance (by rfl) z_str (by decide +kernel) (qv 0)))) (qw_or1 (qt_cmp opU_gt (qe_b cb_len (by rfl) z_len (by decide +kernel) (qa_cons (qv 0) qa_nil)) qe_int (nomark _))))) (qss_one (qs_ret qe_bl)) qss_nil)
      (qss_one (qs_ret (qe_b (cb_all rfl) (by rfl) z_all (by decide +kernel) (qa_cons (qe_lcV (own := [("char", 1)]) (by rfl) sc__law_is_bound.nd (qi_seq (qv 0)) (blkOk_by (own := [("char", 1)]) (N := ["value", "char"]) (sc := defScope s__law_is_bound) (by decide +kernel)) (fun _ _ _ _ _ => qgv_name (i := 1) sc__law_is_bound.nd rfl (Or.inl rfl)) (fun _ _ _ _ _ => qts_nil) (fun _ _ _ _ _ => (qe_cmp (opU_in hr.units) (qv 1) qe_str (by rfl)))) qa_nil)))))
theorem sc__law_rises : FnScope ["rows", "k"] ["rows"] (defScope s__law_rises) := ⟨rfl, rfl, rfl, by decide +kernel, rfl, by decide +kernel, by decide +kernel⟩
theorem ok__law_rises {f : Addr} {fd : FuncData} (F : FnM K "_law_rises" "_law_rises" s__law_rises f fd) (z_all : mg "all" = none) (z_range : mg "range" = none) (z_len : mg "len" = none) :
    FnOk P w K mg base (L2N.CX P w) 1 f fd ["rows"] (spF K f__law_rises) := by
  rw [f__law_rises_eq]
  exact fn_w F sc__law_rises (by decide) fun cdv A outer s H E hr tk po pa => (qss_one (qs_ret (qe_b (cb_all rfl) (by rfl) z_all (by decide +kernel) (qa_cons (qe_lcV (own := [("k", 1)]) (by rfl) sc__law_rises.nd (qi_range2 (by rfl) z_range (qa_cons qe_int (qa_cons (qe_b cb_len (by rfl) z_len (by decide +kernel) (qa_cons (qv 0) qa_nil)) qa_nil))) (blkOk_by (own := [("k", 1)]) (N := ["rows", "k"]) (sc := defScope s__law_rises) (by decide +kernel)) (fun _ _ _ _ _ => qgv_name (i := 1) sc__law_rises.nd rfl (Or.inl rfl)) (fun _ _ _ _ _ => qts_nil) (fun _ _ _ _ _ => (qe_cmp opU_lt (qe_ix hr.units (qe_ix hr.units (qv 0) (qe_op opU_sub (qv 1) qe_int) (fun _ _ => rfl)) qe_int (fun _ _ => rfl)) (qe_ix hr.units (qe_ix hr.units (qv 0) (qv 1) (fun _ _ => rfl)) qe_int (fun _ _ => rfl)) (nomark _)))) qa_nil))))
theorem sc__law_right : FnScope ["parts", "pairs", "rows", "pair", "row", "low", "high", "epoch"] ["parts", "pairs", "rows"] (defScope s__law_right) := ⟨rfl, rfl, rfl, by decide +kernel, rfl, by decide +kernel, by decide +kernel⟩
theorem ok__law_right {f : Addr} {fd : FuncData} (F : FnM K "_law_right" "_law_right" s__law_right f fd) (D__law_is_bound : DefQ P w K mg base 1 "_law_is_bound" ["value"] f__law_is_bound) (z_isinstance : mg "isinstance" = none) (z_bool : mg "bool" = none) (z_int : mg "int" = none) (z_tuple : mg "tuple" = none) (D__law_rises : DefQ P w K mg base 1 "_law_rises" ["rows"] f__law_rises) :
    FnOk P w K mg base (L2N.CX P w) 2 f fd ["parts", "pairs", "rows"] (spF K f__law_right) := by
  rw [f__law_right_eq]
  exact fn_w F sc__law_right (by decide) fun cdv A outer s H E hr tk po pa => (qss_cons (qs_par3 (i := 5) (j := 6) (k := 7) (by rfl) sc__law_right.nd rfl rfl rfl (by decide) (by decide) (by decide) rfl rfl rfl (qa_cons (qe_ix hr.units (qv 0) qe_int (fun _ _ => rfl)) (qa_cons (qe_ix hr.units (qv 0) qe_int (fun _ _ => rfl)) (qa_cons (qe_ix hr.units (qv 0) qe_int (fun _ _ => rfl)) qa_nil))) (by rfl))
      (qss_cons (qs_if (QW.qt (qw_or (qt_not (qt_val (qe_call tk.px D__law_is_bound (hr.mono (by decide)) (by rfl) (qa_cons (qv 5) qa_nil)))) (qw_or1 (QW.qt (qw_and (qt_cmp opU_isnt (qv 6) qe_non (nomark _)) (qw_and1 (QW.qt (qw_or (qt_not (qt_val (qe_call tk.px D__law_is_bound (hr.mono (by decide)) (by rfl) (qa_cons (qv 6) qa_nil)))) (qw_or1 (qt_cmp opU_ge (qv 5) (qv 6) (nomark _))))))))))) (qss_one (qs_ret (qe_tup (qa_cons qe_bl (qa_cons qe_bl qa_nil))))) qss_nil)
      (qss_cons (qs_if (QW.qt (qw_or (qt_not (qt_val (qe_isi .int (by rfl) z_isinstance (by rfl) z_int (by decide +kernel) (qv 7)))) (qw_or (qt_val (qe_isi .bl (by rfl) z_isinstance (by rfl) z_bool (by decide +kernel) (qv 7))) (qw_or (qt_cmp opU_lt (qv 7) qe_int (nomark _)) (qw_or1 (qt_cmp opU_gt (qv 7) (qe_op opU_pow qe_int qe_int) (nomark _))))))) (qss_one (qs_ret (qe_tup (qa_cons qe_bl (qa_cons qe_bl qa_nil))))) qss_nil)
      (qss_cons (qs_if (QW.qt (qw_or (qt_not (qt_val (qe_isi .tup (by rfl) z_isinstance (by rfl) z_tuple (by decide +kernel) (qe_ix hr.units (qv 0) qe_int (fun _ _ => rfl))))) (qw_or1 (qt_not (qt_val (qe_isi .tup (by rfl) z_isinstance (by rfl) z_tuple (by decide +kernel) (qe_ix hr.units (qv 0) qe_int (fun _ _ => rfl)))))))) (qss_one (qs_ret (qe_tup (qa_cons qe_bl (qa_cons qe_bl qa_nil))))) qss_nil)
      (qss_cons (qs_for po (by rfl) (qi_seq (qe_ix hr.units (qv 0) qe_int (fun _ _ => rfl))) (qg_name (i := 3) sc__law_right.nd rfl (Or.inl rfl)) (qss_one (qs_if (QW.qt (qw_or (qt_cmp (opU_nin hr.units) (qv 3) (qv 1) (by rfl)) (qw_or (qt_cmp opU_lt (qe_ix hr.units (qv 3) qe_int (fun _ _ => rfl)) (qv 5) (nomark _)) (qw_or1 (QW.qt (qw_and (qt_cmp opU_isnt (qv 6) qe_non (nomark _)) (qw_and1 (qt_cmp opU_ge (qe_ix hr.units (qv 3) qe_int (fun _ _ => rfl)) (qv 6) (nomark _))))))))) (qss_one (qs_ret (qe_tup (qa_cons qe_bl (qa_cons qe_bl qa_nil))))) qss_nil)))
      (qss_cons (qs_for po (by rfl) (qi_seq (qe_ix hr.units (qv 0) qe_int (fun _ _ => rfl))) (qg_name (i := 4) sc__law_right.nd rfl (Or.inl rfl)) (qss_one (qs_if (qt_cmp (opU_nin hr.units) (qv 4) (qv 2) (by rfl)) (qss_one (qs_ret (qe_tup (qa_cons qe_bl (qa_cons qe_bl qa_nil))))) qss_nil)))
      (qss_one (qs_ret (qe_tup (qa_cons qe_bl (qa_cons (qe_and (qe_call tk.px D__law_rises (hr.mono (by decide)) (by rfl) (qa_cons (qe_ix hr.units (qv 0) qe_int (fun _ _ => rfl)) qa_nil)) (qe_one (qe_call tk.px D__law_rises (hr.mono (by decide)) (by rfl) (qa_cons (qe_ix hr.units (qv 0) qe_int (fun _ _ => rfl)) qa_nil)))) qa_nil)))))))))))
theorem sc__law_made : FnScope ["parts", "whole"] ["parts", "whole"] (defScope s__law_made) := ⟨rfl, rfl, rfl, by decide +kernel, rfl, by decide +kernel, by decide +kernel⟩
theorem ok__law_made {f : Addr} {fd : FuncData} (F : FnM K "_law_made" "_law_made" s__law_made f fd) (D_made : DefQ P w K mg base 9 "made" ["low", "high", "epoch", "pairs", "rows"] f_made) (K_Shard : MakQ P w K mg base 4 "Shard" ["self", "low", "high", "epoch"] f_Shard___init__) (x_BadShard : ExcQ K mg "BadShard") (em_BadShard : ExmQ K ["TableError", "BadOperation", "BadShard"] (.ref (He.ga K "BadShard")) ["BadShard"]) :
    FnOk P w K mg base (L2N.CX P w) 10 f fd ["parts", "whole"] (spF K f__law_made_2) := by
  rw [f__law_made_2_eq]
  exact fn_w F sc__law_made (by decide) fun cdv A outer s H E hr tk po pa => (qss_one (qs_try rfl rfl tk (fun W pn xe tk po => (qss_cons (qs_if (qt_val (qv 1)) (qss_one (qs_ret (qe_call tk.px D_made (hr.mono (by decide)) (by rfl) (qa_cons (qe_ix hr.units (qv 0) qe_int (fun _ _ => rfl)) (qa_cons (qe_ix hr.units (qv 0) qe_int (fun _ _ => rfl)) (qa_cons (qe_ix hr.units (qv 0) qe_int (fun _ _ => rfl)) (qa_cons (qe_ix hr.units (qv 0) qe_int (fun _ _ => rfl)) (qa_cons (qe_ix hr.units (qv 0) qe_int (fun _ _ => rfl)) qa_nil)))))))) qss_nil)
      (qss_one (qs_ret (qe_mak tk.px K_Shard (hr.mono (by decide)) (by rfl) (qa_cons (qe_ix hr.units (qv 0) qe_int (fun _ _ => rfl)) (qa_cons (qe_ix hr.units (qv 0) qe_int (fun _ _ => rfl)) (qa_cons (qe_ix hr.units (qv 0) qe_int (fun _ _ => rfl)) qa_nil)))))))) (qhd_cons ⟨rfl, by decide, .inl x_BadShard.gC⟩ em_BadShard (fun a oe d pn _ => (qss_one (qs_ret qe_non))) qhd_nil)))
theorem sc_law : FnScope ["script", "epoch", "shard", "parts", "plain", "back", "twin", "k", "low", "high", "pairs", "rows", "empty", "whole", "op"] ["script"] (defScope s_law) := ⟨rfl, rfl, rfl, by decide +kernel, rfl, by decide +kernel, by decide +kernel⟩
theorem ok_law {f : Addr} {fd : FuncData} (F : FnM K "law" "law" s_law f fd) (D__law_cell : DefQ P w K mg base 1 "_law_cell" ["script", "k"] f__law_cell_2) (D__law_rich : DefQ P w K mg base 1 "_law_rich" ["cell", "k"] f__law_rich) (D__law_range : DefQ P w K mg base 4 "_law_range" ["rich"] f__law_range_2) (D__law_filled : DefQ P w K mg base 8 "_law_filled" ["script", "start", "low", "high", "epoch"] f__law_filled) (M_Shard_content : MetQ P w K mg base 2 "Shard" "content" ["self"] f_Shard_content) (D__law_spoilt : DefQ P w K mg base 1 "_law_spoilt" ["parts", "rich"] f__law_spoilt) (D__law_right : DefQ P w K mg base 2 "_law_right" ["parts", "pairs", "rows"] f__law_right) (D__law_made : DefQ P w K mg base 10 "_law_made" ["parts", "whole"] f__law_made_2) (l_Shard : Cls K (He.ga K "Shard")) (n_Shard_epoch : NoAttr K (He.ga K "Shard") "epoch") (n_Shard_high : NoAttr K (He.ga K "Shard") "high") (n_Shard_low : NoAttr K (He.ga K "Shard") "low") (z_range : mg "range" = none) (z_min : mg "min" = none) (z_len : mg "len" = none) (D__law_operation : DefQ P w K mg base 4 "_law_operation" ["rich"] f__law_operation) (M_Shard_has : MetQ P w K mg base 3 "Shard" "has" ["self", "place"] f_Shard_has) (M_Shard_serve : MetQ P w K mg base 7 "Shard" "serve" ["self", "client", "number", "op"] f_Shard_serve) :
    FnOk P w K mg base CX0 11 f fd ["script"] (spL K f_law_13) := by
  rw [f_law_13_eq]
  exact fn_l F sc_law (by decide) fun cdv A outer s H E hr tk po pa => (qss_cons (qs_asg (qe_call tk.px D__law_range (hr.mono (by decide)) (by rfl) (qa_cons (qe_call tk.px D__law_rich (hr.mono (by decide)) (by rfl) (qa_cons (qe_call tk.px D__law_cell (hr.mono (by decide)) (by rfl) (qa_cons (qv 0) (qa_cons qe_int qa_nil))) (qa_cons qe_int qa_nil))) qa_nil)) (qg_tup (by rfl) (qgs_cons (qg_name (i := 8) sc_law.nd rfl (Or.inl rfl)) (qgs_cons (qg_name (i := 9) sc_law.nd rfl (Or.inl rfl)) qgs_nil))))
      (qss_cons (qs_set (i := 1) sc_law.nd rfl (Or.inl rfl) (qe_op opU_add qe_int (qe_op opU_mod (qe_call tk.px D__law_cell (hr.mono (by decide)) (by rfl) (qa_cons (qv 0) (qa_cons qe_int qa_nil))) qe_int)))
      (qss_cons (qs_set (i := 2) sc_law.nd rfl (Or.inl rfl) (qe_call tk.px D__law_filled (hr.mono (by decide)) (by rfl) (qa_cons (qv 0) (qa_cons qe_int (qa_cons (qv 8) (qa_cons (qv 9) (qa_cons (qv 1) qa_nil)))))))
      (qss_cons (qs_asg (qe_met0 tk.px (mets1 M_Shard_content) (hr.mono (by decide)) (qv 2)) (qg_tup (by rfl) (qgs_cons (qg_name (i := 10) sc_law.nd rfl (Or.inl rfl)) (qgs_cons (qg_name (i := 11) sc_law.nd rfl (Or.inl rfl)) qgs_nil))))
      (qss_cons (qs_set (i := 3) sc_law.nd rfl (Or.inl rfl) (qe_lV (qa_cons (qv 8) (qa_cons (qv 9) (qa_cons (qv 1) (qa_cons (qv 10) (qa_cons (qv 11) qa_nil)))))))
      (qss_jn (qs_if (qt_cmp opU_gt (qe_op opU_mod (qe_call tk.px D__law_cell (hr.mono (by decide)) (by rfl) (qa_cons (qv 0) (qa_cons qe_int qa_nil))) qe_int) qe_int (nomark _)) (qss_one (qs_set (i := 3) sc_law.nd rfl (Or.inl rfl) (qe_call tk.px D__law_spoilt (hr.mono (by decide)) (by rfl) (qa_cons (qv 3) (qa_cons (qe_call tk.px D__law_rich (hr.mono (by decide)) (by rfl) (qa_cons (qe_call tk.px D__law_cell (hr.mono (by decide)) (by rfl) (qa_cons (qv 0) (qa_cons qe_int qa_nil))) (qa_cons qe_int qa_nil))) qa_nil))))) qss_nil)
      (qss_cons (qs_asg (qe_call tk.px D__law_right (hr.mono (by decide)) (by rfl) (qa_cons (qv 3) (qa_cons (qv 10) (qa_cons (qv 11) qa_nil)))) (qg_tup (by rfl) (qgs_cons (qg_name (i := 12) sc_law.nd rfl (Or.inl rfl)) (qgs_cons (qg_name (i := 13) sc_law.nd rfl (Or.inl rfl)) qgs_nil))))
      (qss_cons (qs_set (i := 4) sc_law.nd rfl (Or.inl rfl) (qe_call tk.px D__law_made (hr.mono (by decide)) (by rfl) (qa_cons (qv 3) (qa_cons qe_bl qa_nil))))
      (qss_cons (qs_if (QW.qt (qw_or (qt_cmp (opU_neq hr.units) (qe_cmp opU_isnt (qv 4) qe_non (nomark _)) (qv 12) (nomark _)) (qw_or1 (QW.qt (qw_and (qt_val (qv 12)) (qw_and1 (qt_cmp (opU_neq hr.units) (qe_met0 tk.px (mets1 M_Shard_content) (hr.mono (by decide)) (qv 4)) (qe_tup (qa_cons (qe_tup qa_nil) (qa_cons (qe_tup qa_nil) qa_nil))) (nomark _)))))))) (qss_one (qs_ret qe_bl)) qss_nil)
      (qss_cons (qs_set (i := 5) sc_law.nd rfl (Or.inl rfl) (qe_call tk.px D__law_made (hr.mono (by decide)) (by rfl) (qa_cons (qv 3) (qa_cons qe_bl qa_nil))))
      (qss_cons (qs_if (QW.qt (qw_or (qt_not (qt_val (qv 13))) (qw_or1 (qt_cmp opU_is (qv 5) qe_non (nomark _))))) (qss_one (qs_ret (qe_and (qe_cmp opU_is (qv 5) qe_non (nomark _)) (qe_one (qe_not (qv 13)))))) qss_nil)
      (qss_cons (qs_if (QW.qt (qw_or (qt_cmp (opU_neq hr.units) (qe_met0 tk.px (mets1 M_Shard_content) (hr.mono (by decide)) (qv 5)) (qe_tup (qa_cons (qe_ix hr.units (qv 3) qe_int (fun _ _ => rfl)) (qa_cons (qe_ix hr.units (qv 3) qe_int (fun _ _ => rfl)) qa_nil))) (nomark _)) (qw_or1 (qt_cmp (opU_neq hr.units) (qe_lV (qa_cons (qe_fld (fld1 l_Shard n_Shard_low) (qv 5) rfl) (qa_cons (qe_fld (fld1 l_Shard n_Shard_high) (qv 5) rfl) (qa_cons (qe_fld (fld1 l_Shard n_Shard_epoch) (qv 5) rfl) qa_nil)))) (qe_sl (qv 3) qo_none (qo_some qe_int)) (nomark _))))) (qss_one (qs_ret qe_bl)) qss_nil)
      (qss_cons (qs_set (i := 6) sc_law.nd rfl (Or.inl rfl) (qe_call tk.px D__law_made (hr.mono (by decide)) (by rfl) (qa_cons (qv 3) (qa_cons qe_bl qa_nil))))
      (qss_cons (qs_for po (by rfl) (qi_range1 (by rfl) z_range (qa_cons (qe_b (cb_min rfl) (by rfl) z_min (by decide +kernel) (qa_cons qe_int (qa_cons (qe_b cb_len (by rfl) z_len (by decide +kernel) (qa_cons (qv 0) qa_nil)) qa_nil))) qa_nil)) (qg_name (i := 7) sc_law.nd rfl (Or.inl rfl)) (qss_cons (qs_set (i := 14) sc_law.nd rfl (Or.inl rfl) (qe_call tk.px D__law_operation (hr.mono (by decide)) (by rfl) (qa_cons (qe_call tk.px D__law_rich (hr.mono (by decide)) (by rfl) (qa_cons (qe_ix hr.units (qv 0) (qv 7) (fun _ _ => rfl)) (qa_cons (qe_op opU_add qe_int (qv 7)) qa_nil))) qa_nil)))
      (qss_one (qs_if (qt_val (qe_met tk.px (mets1 M_Shard_has) (hr.mono (by decide)) (qv 5) (qa_cons (qe_ix hr.units (qv 14) qe_int (fun _ _ => rfl)) qa_nil))) (qss_one (qs_if (qt_cmp (opU_neq hr.units) (qe_met tk.px (mets1 M_Shard_serve) (hr.mono (by decide)) (qv 5) (qa_cons (qe_un unU_neg qe_int) (qa_cons (qe_op opU_add qe_int (qe_op opU_fdv (qv 7) qe_int)) (qa_cons (qv 14) qa_nil)))) (qe_met tk.px (mets1 M_Shard_serve) (hr.mono (by decide)) (qv 6) (qa_cons (qe_un unU_neg qe_int) (qa_cons (qe_op opU_add qe_int (qe_op opU_fdv (qv 7) qe_int)) (qa_cons (qv 14) qa_nil)))) (nomark _)) (qss_one (qs_ret qe_bl)) qss_nil)) qss_nil))))
      (qss_cons (qs_if (QW.qt (qw_or (qt_cmp (opU_neq hr.units) (qe_sl (qv 3) qo_none (qo_some qe_int)) (qe_lV (qa_cons (qv 8) (qa_cons (qv 9) (qa_cons (qv 1) qa_nil)))) (nomark _)) (qw_or1 (qt_cmp (opU_neq hr.units) (qe_tup (qa_cons (qe_ix hr.units (qv 3) qe_int (fun _ _ => rfl)) (qa_cons (qe_ix hr.units (qv 3) qe_int (fun _ _ => rfl)) qa_nil))) (qe_tup (qa_cons (qv 10) (qa_cons (qv 11) qa_nil))) (nomark _))))) (qss_one (qs_ret qe_bl)) qss_nil)
      (qss_cons (qs_for po (by rfl) (qi_range1 (by rfl) z_range (qa_cons (qe_b (cb_min rfl) (by rfl) z_min (by decide +kernel) (qa_cons qe_int (qa_cons (qe_b cb_len (by rfl) z_len (by decide +kernel) (qa_cons (qv 0) qa_nil)) qa_nil))) qa_nil)) (qg_name (i := 7) sc_law.nd rfl (Or.inl rfl)) (qss_cons (qs_set (i := 14) sc_law.nd rfl (Or.inl rfl) (qe_call tk.px D__law_operation (hr.mono (by decide)) (by rfl) (qa_cons (qe_call tk.px D__law_rich (hr.mono (by decide)) (by rfl) (qa_cons (qe_ix hr.units (qv 0) (qv 7) (fun _ _ => rfl)) (qa_cons (qe_op opU_add qe_int (qv 7)) qa_nil))) qa_nil)))
      (qss_one (qs_if (qt_val (qe_met tk.px (mets1 M_Shard_has) (hr.mono (by decide)) (qv 2) (qa_cons (qe_ix hr.units (qv 14) qe_int (fun _ _ => rfl)) qa_nil))) (qss_one (qs_expr (qe_met tk.px (mets1 M_Shard_serve) (hr.mono (by decide)) (qv 2) (qa_cons (qe_un unU_neg qe_int) (qa_cons (qe_op opU_add qe_int (qe_op opU_fdv (qv 7) qe_int)) (qa_cons (qv 14) qa_nil)))))) qss_nil))))
      (qss_one (qs_ret (qe_cmp (opU_equ hr.units) (qe_met0 tk.px (mets1 M_Shard_content) (hr.mono (by decide)) (qv 2)) (qe_met0 tk.px (mets1 M_Shard_content) (hr.mono (by decide)) (qv 5)) (nomark _))))))))))))))))))))
end
end K26
namespace Q
open PySem L2
local macro_rules | `(tactic| walk_at "mu") => `(tactic| (repeat (first | exact mset_same | assumption | (rw [mset_ne]; rotate_left; (first | assumption | exact Ne.symm (by assumption))))))
local macro_rules | `(tactic| walk_at "lk") => `(tactic| (repeat (first | exact lk_hit | exact lk_nil | refine lk_skip (by decide +kernel) ?_)))
local macro_rules | `(tactic| walk_at "q") => `(tactic| ((with_reducible conv => whnf); repeat (first
  | (with_reducible refine q_t (by with_reducible rfl) ?_; with_reducible conv => whnf)
  | (with_reducible refine q_f (by with_reducible rfl) ?_; with_reducible conv => whnf)
  | (with_reducible refine q_t (by decide) ?_; with_reducible conv => whnf)
  | (with_reducible refine q_f (by decide) ?_; with_reducible conv => whnf)
  | (with_reducible refine q_t (decide_eq_true (by omega)) ?_; with_reducible conv => whnf)
  | (with_reducible refine q_f (decide_eq_false (by omega)) ?_; with_reducible conv => whnf)
  | (with_reducible refine q_f (q_nn (by omega)) ?_; with_reducible conv => whnf)
  | (with_reducible refine q_t (q_nt (by omega)) ?_; with_reducible conv => whnf)
  | (with_reducible refine q_len (by with_unfolding_all rfl) ?_; with_reducible conv => whnf)
  | (with_reducible refine q_leq (by with_unfolding_all rfl) ?_; with_reducible conv => whnf)
  | (with_reducible refine q_and (by first | assumption | exact True.intro | omega | (simp only [List.length_map, List.length_append, List.length_cons, List.length_nil]; omega) | decide) ?_; with_reducible conv => whnf)
  | (with_reducible refine q_le (by with_unfolding_all rfl) ?_; with_reducible conv => whnf)
  | (with_reducible refine q_and tyL_lst ?_; with_reducible conv => whnf)
  | (with_reducible refine q_and tyL_rol ?_; with_reducible conv => whnf)
  | (with_reducible refine q_and (tyL_ref (by walk_at "mu")) ?_; with_reducible conv => whnf)
  | (with_reducible refine q_and (tyD_ref (by walk_at "mu")) ?_; with_reducible conv => whnf)
  | (with_reducible refine q_and (rdD_ref (by walk_at "mu")) ?_; with_reducible conv => whnf)
  | (rw [pick_c0]; with_reducible conv => whnf)
  | (rw [pick_c1]; with_reducible conv => whnf)
  | (rw [pick_c2]; with_reducible conv => whnf)
  | (rw [pick_c3]; with_reducible conv => whnf)
  | (rw [pick_c4]; with_reducible conv => whnf)
  | (rw [pick_c5]; with_reducible conv => whnf)
  | (rw [mset_same]; with_reducible conv => whnf)
  | (rw [mset_ne (by assumption)]; with_reducible conv => whnf)
  | (rw [mset_ne]; rotate_left; (first | assumption | exact Ne.symm (by assumption)); with_reducible conv => whnf)
  | (rw [rdL_ref]; rotate_left; (focus (walk_at "mu"; done)); with_reducible conv => whnf)
  | (rw [rdL_refD]; rotate_left; (focus (walk_at "mu"; done)); with_reducible conv => whnf)
  | (rw [rdD_refD]; rotate_left; (focus (walk_at "mu"; done)); with_reducible conv => whnf)
  | (rw [rdM_ref]; rotate_left; (focus (walk_at "mu"; done)); with_reducible conv => whnf)
  | (rw [rdL_refK]; rotate_left; (focus (walk_at "mu"; done)); with_reducible conv => whnf)
  | (rw [rdD_refK]; rotate_left; (focus (walk_at "mu"; done)); with_reducible conv => whnf)
  | (rw [tyW_refL]; rotate_left; (focus (walk_at "mu"; done)); with_reducible conv => whnf)
  | (rw [tyW_refD]; rotate_left; (focus (walk_at "mu"; done)); with_reducible conv => whnf)
  | (rw [drf_ref]; rotate_left; (focus (walk_at "mu"; done)); with_reducible conv => whnf)
  | ((conv => (arg 2; tactic' => (walk_at "mu"; done))); with_reducible conv => whnf)
  | (with_reducible refine q_and (Eq.refl _) ?_; with_reducible conv => whnf)
  | (with_reducible refine q_and (MulO.r (by decide)) ?_; with_reducible conv => whnf)
  | (with_reducible refine q_and (MulO.l (by decide)) ?_; with_reducible conv => whnf)
  | (with_reducible refine q_and (MulO.r (by omega)) ?_; with_reducible conv => whnf)
  | (with_reducible refine q_and (MulO.l (by omega)) ?_; with_reducible conv => whnf)
  | (with_reducible refine q_pow (by decide) ?_; with_reducible conv => whnf)
  | (with_reducible refine q_eqI ?_; with_reducible conv => whnf)
  | (with_reducible refine q_eqS ?_; with_reducible conv => whnf)
  | (with_reducible refine q_eqB ?_; with_reducible conv => whnf)
  | (with_reducible refine q_neI ?_; with_reducible conv => whnf)
  | (with_reducible refine q_neS ?_; with_reducible conv => whnf)
  | (with_reducible refine q_neB ?_; with_reducible conv => whnf)
  | (with_reducible refine q_memc ?_; with_reducible conv => whnf)
  | (with_reducible refine q_lkn (by walk_at "lk") ?_; with_reducible conv => whnf)
  | (with_reducible refine q_tix (by walk_at "lk"; done) ?_; with_reducible conv => whnf)
  | (with_reducible refine q_tin ?_; with_reducible conv => whnf)
  | (rw [pf_hit]; with_reducible conv => whnf)
  | (rw [pf_skip]; rotate_left; (focus (decide +kernel; done)); with_reducible conv => whnf)
  | (rw [lk_hit]; with_reducible conv => whnf)
  | (rw [lk_skip1]; rotate_left; (focus (decide +kernel; done)); with_reducible conv => whnf))))
/-! integers, kinds -/
theorem sp_is_integer {i a b : Int} {μ : Mu} {P : Po} {X : Xo} (h : P (.bl (decide (a ≤ i) && decide (i ≤ b))) μ) : f_is_integer [.int i, .int a, .int b] μ P X := by
  rw [f_is_integer_eq]; unfold f_is_integer_B fDef
  refine ⟨rfl, ?_⟩
  walk_at "q"
  refine q_ifP (fun c => ?_) fun c => ?_
  · rw [decide_eq_true c, Bool.true_and] at h
    walk_at "q"
    exact Rt.now h
  · rw [decide_eq_false c, Bool.false_and] at h
    exact Rt.now h
theorem sp_kind_tup {k : Str} {r : List W} {μ : Mu} {P : Po} {X : Xo} (h : P (.str k) μ) : f_kind_of [.tup (.str k :: r)] μ P X := by
  rw [f_kind_of_eq]; unfold f_kind_of_B fDef
  refine ⟨rfl, ?_⟩
  walk_at "q"
  refine q_t (decide_eq_true (by rw [List.length_cons]; omega)) ?_
  walk_at "q"
  exact Rt.now h
end Q
namespace Q
open PySem L2
/-! tables as lists of pairs, and as they lie in the store -/
abbrev Tb (κ α : Type) : Type := List (κ × α)
section
variable {κ α : Type} [DecidableEq κ]
def getT (t : Tb κ α) (k : κ) : Option α := (t.find? fun x => decide (x.1 = k)).map (·.2)
def putT (t : Tb κ α) (k : κ) (v : α) : Tb κ α := if (t.any fun x => decide (x.1 = k)) = true then t.map (fun x => if x.1 = k then (x.1, v) else x) else t ++ [(k, v)]
def dropT (t : Tb κ α) (k : κ) : Tb κ α := t.filter fun x => decide (x.1 ≠ k)
def keysT (t : Tb κ α) : List κ := t.map (·.1)
def Nd (t : Tb κ α) : Prop := (keysT t).Nodup
theorem getT_cons (x : κ × α) (t : Tb κ α) (k : κ) : getT (x :: t) k = if x.1 = k then some x.2 else getT t k := by
  unfold getT
  rw [List.find?_cons]
  by_cases c : x.1 = k
  · rw [decide_eq_true c, if_pos c]
    rfl
  · rw [decide_eq_false c, if_neg c]
theorem getT_put (t : Tb κ α) (n m : κ) (v : α) : getT (putT t n v) m = if n = m then some v else getT t m := by
  induction t with
  | nil =>
    show getT [(n, v)] m = _
    rw [getT_cons]
  | cons x fs ih =>
    unfold putT at ih ⊢
    by_cases c : x.1 = n
    · have e : ((x :: fs).any fun x => decide (x.1 = n)) = true := by rw [List.any_cons, decide_eq_true c]; rfl
      rw [if_pos e, List.map_cons, if_pos c, getT_cons, getT_cons]
      by_cases d : n = m
      · rw [if_pos (c.trans d), if_pos d]
      · rw [if_neg (fun z => d (c.symm.trans z)), if_neg d, if_neg (fun z => d (c.symm.trans z))]
        by_cases e2 : (fs.any fun x => decide (x.1 = n)) = true
        · rw [if_pos e2, if_neg d] at ih
          exact ih
        · have : fs.map (fun x => if x.1 = n then (x.1, v) else x) = fs := by
            have hn : ∀ x ∈ fs, (if x.1 = n then (x.1, v) else x) = id x := fun x hx => if_neg fun z => e2 (List.any_eq_true.mpr ⟨x, hx, decide_eq_true z⟩)
            rw [List.map_congr_left hn, List.map_id]
          rw [this]
    · have e : ((x :: fs).any fun x => decide (x.1 = n)) = fs.any fun x => decide (x.1 = n) := by rw [List.any_cons, decide_eq_false c]; rfl
      rw [e]
      split
      · rename_i h
        rw [if_pos h] at ih
        rw [List.map_cons, if_neg c, getT_cons, ih, getT_cons]
        by_cases d : x.1 = m
        · rw [if_pos d, if_pos d, if_neg (fun z => c (d.trans z.symm))]
        · rw [if_neg d, if_neg d]
      · rename_i h
        rw [if_neg h] at ih
        rw [List.cons_append, getT_cons, ih, getT_cons]
        by_cases d : x.1 = m
        · rw [if_pos d, if_pos d, if_neg (fun z => c (d.trans z.symm))]
        · rw [if_neg d, if_neg d]
theorem getT_filter (t : Tb κ α) (p : κ → Bool) (m : κ) : getT (t.filter fun x => p x.1) m = if p m = true then getT t m else none := by
  induction t with
  | nil =>
    show none = _
    split <;> rfl
  | cons x fs ih =>
    rw [List.filter_cons]
    by_cases c : p x.1 = true
    · rw [if_pos c, getT_cons, ih, getT_cons]
      by_cases d : x.1 = m
      · rw [if_pos d, if_pos d, if_pos (by rw [← d]; exact c)]
      · rw [if_neg d, if_neg d]
    · rw [if_neg c, ih, getT_cons]
      by_cases d : x.1 = m
      · rw [if_neg (by rw [← d]; exact c), if_neg (by rw [← d]; exact c)]
      · rw [if_neg d]
theorem getT_drop (t : Tb κ α) (n m : κ) : getT (dropT t n) m = if n = m then none else getT t m := by
  unfold dropT
  have := getT_filter t (fun k => decide (k ≠ n)) m
  rw [this]
  by_cases d : n = m
  · rw [if_pos d, if_neg (by simp [d])]
  · rw [if_neg d, if_pos (by simp; exact fun z => d z.symm)]
theorem putT_len (t : Tb κ α) (n : κ) (v : α) : (putT t n v).length ≤ t.length + 1 := by
  unfold putT
  split
  · rw [List.length_map]
    omega
  · rw [List.length_append]
    exact Nat.le_refl _
theorem dropT_len (t : Tb κ α) (n : κ) : (dropT t n).length ≤ t.length := List.length_filter_le _ _
theorem mem_keysT (t : Tb κ α) (n : κ) : n ∈ keysT t ↔ (getT t n).isSome = true := by
  induction t with
  | nil => simp [getT, keysT]
  | cons x fs ih =>
    rw [getT_cons, show keysT (x :: fs) = x.1 :: keysT fs from rfl, List.mem_cons]
    by_cases c : x.1 = n
    · rw [if_pos c]
      exact ⟨fun _ => rfl, fun _ => .inl c.symm⟩
    · rw [if_neg c, ← ih]
      exact ⟨fun h => h.elim (fun z => absurd z.symm c) id, .inr⟩
theorem keysT_put (t : Tb κ α) (n : κ) (v : α) : keysT (putT t n v) = if n ∈ keysT t then keysT t else keysT t ++ [n] := by
  have e : ((t.any fun x => decide (x.1 = n)) = true) ↔ n ∈ keysT t := by
    rw [List.any_eq_true]
    constructor
    · rintro ⟨x, hx, e⟩
      exact List.mem_map.mpr ⟨x, hx, of_decide_eq_true e⟩
    · intro h
      obtain ⟨x, hx, e⟩ := List.mem_map.mp h
      exact ⟨x, hx, decide_eq_true e⟩
  unfold putT
  by_cases c : n ∈ keysT t
  · rw [if_pos (e.mpr c), if_pos c]
    unfold keysT
    rw [List.map_map]
    refine List.map_congr_left fun x _ => ?_
    show (if x.1 = n then (x.1, v) else x).1 = x.1
    split <;> rfl
  · rw [if_neg (fun z => c (e.mp z)), if_neg c]
    unfold keysT
    rw [List.map_append]
    rfl
theorem nd_nil : Nd ([] : Tb κ α) := List.nodup_nil
theorem nd_put {t : Tb κ α} (h : Nd t) (n : κ) (v : α) : Nd (putT t n v) := by
  unfold Nd at *
  rw [keysT_put]
  split
  · exact h
  · rename_i c
    rw [List.nodup_append]
    refine ⟨h, by simp, fun a ha b hb => ?_⟩
    rw [List.mem_singleton.mp hb]
    exact fun e => c (e ▸ ha)
theorem nd_filter {t : Tb κ α} (h : Nd t) (p : κ × α → Bool) : Nd (t.filter p) := List.Nodup.sublist (List.Sublist.map _ List.filter_sublist) h
theorem nd_drop {t : Tb κ α} (h : Nd t) (n : κ) : Nd (dropT t n) := nd_filter h _
theorem nd_mem {t : Tb κ α} (h : Nd t) {x : κ × α} (hx : x ∈ t) : getT t x.1 = some x.2 := by
  induction t with
  | nil => cases hx
  | cons y t ih =>
    have h' : (y.1 :: keysT t).Nodup := h
    obtain ⟨h1, h2⟩ := List.nodup_cons.mp h'
    rw [getT_cons]
    rcases List.mem_cons.mp hx with rfl | hx
    · rw [if_pos rfl]
    · rw [if_neg fun z => h1 (by rw [z]; exact List.mem_map.mpr ⟨x, hx, rfl⟩)]
      exact ih h2 hx
theorem getT_mem {t : Tb κ α} {k : κ} {v : α} (h : getT t k = some v) : (k, v) ∈ t := by
  induction t with
  | nil => cases h
  | cons y t ih =>
    rw [getT_cons] at h
    split at h
    · rename_i e
      cases h
      rw [← e]
      exact List.mem_cons_self
    · exact List.mem_cons_of_mem _ (ih h)
theorem perm_of {α : Type} [DecidableEq α] {a b : List α} (ha : a.Nodup) (hb : b.Nodup) (h : ∀ x, x ∈ a ↔ x ∈ b) : a.Perm b := by
  rw [List.perm_iff_count]
  intro x
  rw [ha.count, hb.count]
  by_cases c : x ∈ a
  · rw [if_pos c, if_pos ((h x).mp c)]
  · rw [if_neg c, if_neg fun z => c ((h x).mpr z)]
theorem keys_perm {a b : Tb κ α} (ha : Nd a) (hb : Nd b) (h : ∀ k, getT a k = getT b k) : (keysT a).Perm (keysT b) := perm_of ha hb fun k => by rw [mem_keysT, mem_keysT, h]
/-! as they lie in the store -/
def encT (f : κ → Key) (g : κ → α → W) (t : Tb κ α) : List (Key × W) := t.map fun x => (f x.1, g x.1 x.2)
variable {f : κ → Key} {g : κ → α → W}
theorem encT_val (hf : ∀ a b, f a = f b → a = b) (t : Tb κ α) (n : κ) : valW (encT f g t) (f n) = (getT t n).map (g n) := by
  induction t with
  | nil => rfl
  | cons x t ih =>
    rw [getT_cons]
    unfold valW at ih ⊢
    rw [show encT f g (x :: t) = (f x.1, g x.1 x.2) :: encT f g t from rfl, List.find?_cons]
    by_cases c : x.1 = n
    · rw [if_pos c, decide_eq_true (by rw [c])]
      show some (g x.1 x.2) = some (g n x.2)
      rw [c]
    · rw [if_neg c, decide_eq_false (fun z => c (hf _ _ z))]
      exact ih
theorem encT_put (hf : ∀ a b, f a = f b → a = b) (t : Tb κ α) (n : κ) (v : α) : putW (encT f g t) (f n) (g n v) = encT f g (putT t n v) := by
  have ea : ((encT f g t).any fun kv => decide (kv.1 = f n)) = t.any fun x => decide (x.1 = n) := by
    unfold encT
    rw [List.any_map]
    congr 1
    funext x
    exact decide_eq_decide.mpr ⟨hf _ _, fun h => congrArg f h⟩
  unfold putW putT
  rw [ea]
  split
  · unfold encT
    rw [List.map_map, List.map_map]
    refine List.map_congr_left fun x _ => ?_
    show (if f x.1 = f n then (f x.1, g n v) else (f x.1, g x.1 x.2)) = _
    by_cases c : x.1 = n
    · rw [if_pos (by rw [c])]
      show _ = (f (if x.1 = n then (x.1, v) else x).1, g (if x.1 = n then (x.1, v) else x).1 (if x.1 = n then (x.1, v) else x).2)
      rw [if_pos c, c]
    · rw [if_neg (fun z => c (hf _ _ z))]
      show _ = (f (if x.1 = n then (x.1, v) else x).1, g (if x.1 = n then (x.1, v) else x).1 (if x.1 = n then (x.1, v) else x).2)
      rw [if_neg c]
  · unfold encT
    rw [List.map_append]
    rfl
theorem encT_drop (hf : ∀ a b, f a = f b → a = b) (t : Tb κ α) (n : κ) : dropW (encT f g t) (f n) = encT f g (dropT t n) := by
  unfold dropW dropT encT
  rw [List.filter_map]
  congr 1
  refine List.filter_congr fun x _ => ?_
  exact decide_eq_decide.mpr (not_congr ⟨hf _ _, fun h => congrArg f h⟩)
theorem encT_len (t : Tb κ α) : (encT f g t).length = t.length := List.length_map _
end
/-! sorted -/
theorem sorted_keys {α : Type} {a b : Tb Str α} (ha : Nd a) (hb : Nd b) (h : ∀ k, getT a k = getT b k) : So.sortS (keysT a) = So.sortS (keysT b) :=
  So.pw_only (((So.sortS_perm _).trans (keys_perm ha hb h)).trans (So.sortS_perm _).symm) (So.sortS_pw _) (So.sortS_pw _)
theorem sorted_keysI {α : Type} {a b : Tb Int α} (ha : Nd a) (hb : Nd b) (h : ∀ k, getT a k = getT b k) : So.sortI (keysT a) = So.sortI (keysT b) :=
  So.sortedI_only ((So.sortI_perm _).trans (keys_perm ha hb h)) (So.sortI_pw _)
end Q
namespace Q
open PySem L2
local macro_rules | `(tactic| walk_at "mu") => `(tactic| (repeat (first | exact mset_same | assumption | (rw [mset_ne]; rotate_left; (first | assumption | exact Ne.symm (by assumption))))))
local macro_rules | `(tactic| walk_at "lk") => `(tactic| (repeat (first | exact lk_hit | exact lk_nil | refine lk_skip (by decide +kernel) ?_)))
local macro_rules | `(tactic| walk_at "q") => `(tactic| ((with_reducible conv => whnf); repeat (first
  | (with_reducible refine q_t (by assumption) ?_; with_reducible conv => whnf)
  | (with_reducible refine q_f (by assumption) ?_; with_reducible conv => whnf)
  | (with_reducible refine q_t (by with_reducible rfl) ?_; with_reducible conv => whnf)
  | (with_reducible refine q_f (by with_reducible rfl) ?_; with_reducible conv => whnf)
  | (with_reducible refine q_t (by decide) ?_; with_reducible conv => whnf)
  | (with_reducible refine q_f (by decide) ?_; with_reducible conv => whnf)
  | (with_reducible refine q_t (decide_eq_true (by omega)) ?_; with_reducible conv => whnf)
  | (with_reducible refine q_f (decide_eq_false (by omega)) ?_; with_reducible conv => whnf)
  | (with_reducible refine q_f (q_nn (by omega)) ?_; with_reducible conv => whnf)
  | (with_reducible refine q_t (q_nt (by omega)) ?_; with_reducible conv => whnf)
  | (with_reducible refine q_len (by with_unfolding_all rfl) ?_; with_reducible conv => whnf)
  | (with_reducible refine q_leq (by with_unfolding_all rfl) ?_; with_reducible conv => whnf)
  | (with_reducible refine q_and (by first | assumption | exact True.intro | omega | (simp only [List.length_map, List.length_append, List.length_cons, List.length_nil]; omega) | decide) ?_; with_reducible conv => whnf)
  | (with_reducible refine q_le (by with_unfolding_all rfl) ?_; with_reducible conv => whnf)
  | (with_reducible refine q_and tyL_lst ?_; with_reducible conv => whnf)
  | (with_reducible refine q_and tyL_rol ?_; with_reducible conv => whnf)
  | (with_reducible refine q_and (tyL_ref (by walk_at "mu")) ?_; with_reducible conv => whnf)
  | (with_reducible refine q_and (tyD_ref (by walk_at "mu")) ?_; with_reducible conv => whnf)
  | (with_reducible refine q_and (rdD_ref (by walk_at "mu")) ?_; with_reducible conv => whnf)
  | (rw [pick_c0]; with_reducible conv => whnf)
  | (rw [pick_c1]; with_reducible conv => whnf)
  | (rw [pick_c2]; with_reducible conv => whnf)
  | (rw [pick_c3]; with_reducible conv => whnf)
  | (rw [pick_c4]; with_reducible conv => whnf)
  | (rw [pick_c5]; with_reducible conv => whnf)
  | (rw [mset_same]; with_reducible conv => whnf)
  | (rw [mset_ne (by assumption)]; with_reducible conv => whnf)
  | (rw [mset_ne]; rotate_left; (first | assumption | exact Ne.symm (by assumption)); with_reducible conv => whnf)
  | (rw [rdL_ref]; rotate_left; (focus (walk_at "mu"; done)); with_reducible conv => whnf)
  | (rw [rdL_refD]; rotate_left; (focus (walk_at "mu"; done)); with_reducible conv => whnf)
  | (rw [rdD_refD]; rotate_left; (focus (walk_at "mu"; done)); with_reducible conv => whnf)
  | (rw [rdM_ref]; rotate_left; (focus (walk_at "mu"; done)); with_reducible conv => whnf)
  | (rw [rdL_refK]; rotate_left; (focus (walk_at "mu"; done)); with_reducible conv => whnf)
  | (rw [rdD_refK]; rotate_left; (focus (walk_at "mu"; done)); with_reducible conv => whnf)
  | (rw [tyW_refL]; rotate_left; (focus (walk_at "mu"; done)); with_reducible conv => whnf)
  | (rw [tyW_refD]; rotate_left; (focus (walk_at "mu"; done)); with_reducible conv => whnf)
  | (rw [drf_ref]; rotate_left; (focus (walk_at "mu"; done)); with_reducible conv => whnf)
  | ((conv => (arg 2; tactic' => (walk_at "mu"; done))); with_reducible conv => whnf)
  | (with_reducible refine q_and (Eq.refl _) ?_; with_reducible conv => whnf)
  | (with_reducible refine q_and (MulO.r (by decide)) ?_; with_reducible conv => whnf)
  | (with_reducible refine q_and (MulO.l (by decide)) ?_; with_reducible conv => whnf)
  | (with_reducible refine q_and (MulO.r (by omega)) ?_; with_reducible conv => whnf)
  | (with_reducible refine q_and (MulO.l (by omega)) ?_; with_reducible conv => whnf)
  | (with_reducible refine q_pow (by decide) ?_; with_reducible conv => whnf)
  | (with_reducible refine q_nisT (by first | assumption | with_reducible rfl) ?_; with_reducible conv => whnf)
  | (with_reducible refine q_nisF (by first | assumption | with_reducible rfl) ?_; with_reducible conv => whnf)
  | (with_reducible refine q_eqI ?_; with_reducible conv => whnf)
  | (with_reducible refine q_eqS ?_; with_reducible conv => whnf)
  | (with_reducible refine q_eqB ?_; with_reducible conv => whnf)
  | (with_reducible refine q_neI ?_; with_reducible conv => whnf)
  | (with_reducible refine q_neS ?_; with_reducible conv => whnf)
  | (with_reducible refine q_neB ?_; with_reducible conv => whnf)
  | (with_reducible refine q_memc ?_; with_reducible conv => whnf)
  | (with_reducible refine q_lkn (by walk_at "lk") ?_; with_reducible conv => whnf)
  | (with_reducible refine q_tix (by walk_at "lk"; done) ?_; with_reducible conv => whnf)
  | (with_reducible refine q_tin ?_; with_reducible conv => whnf)
  | (rw [pf_hit]; with_reducible conv => whnf)
  | (rw [pf_skip]; rotate_left; (focus (decide +kernel; done)); with_reducible conv => whnf)
  | (rw [lk_hit]; with_reducible conv => whnf)
  | (rw [lk_skip1]; rotate_left; (focus (decide +kernel; done)); with_reducible conv => whnf))))
/-! keys -/
def isKeyB (z : Str) : Bool := decide (1 ≤ z.length ∧ z.length ≤ 8) && z.cps.toList.all fun c => decide (97 ≤ c ∧ c ≤ 122)
theorem l_a : ("a" : Str) = ⟨#[97]⟩ := by decide +kernel
theorem l_z : ("z" : Str) = ⟨#[122]⟩ := by decide +kernel
def keyCh (w : W) : Bool := match w with
  | .str x => !sLt x "a" && !sLt "z" x
  | _ => false
theorem keyCh_all (z : Str) : (signs z).all keyCh = z.cps.toList.all fun c => decide (97 ≤ c ∧ c ≤ 122) := by
  unfold signs
  rw [List.all_map]
  congr 1
  funext c
  show (!sLt ⟨#[c]⟩ "a" && !sLt "z" ⟨#[c]⟩) = decide (97 ≤ c ∧ c ≤ 122)
  rw [l_a, l_z, slt_one, slt_one]
  by_cases h1 : c < 97 <;> by_cases h2 : 122 < c <;> simp [h1, h2] <;> omega
theorem sp_is_key {z : Str} {μ : Mu} {P : Po} {X : Xo} (hz : z.length ≤ 16000000) (h : P (.bl (isKeyB z)) μ) : f_is_key [.str z] μ P X := by
  rw [f_is_key_eq]; unfold f_is_key_B fDef
  refine ⟨rfl, ?_⟩
  have no : ¬(1 ≤ z.length ∧ z.length ≤ 8) → P (.bl false) μ := fun c => by
    unfold isKeyB at h
    rw [decide_eq_false c] at h
    exact h
  walk_at "q"
  refine q_ifP (fun c1 => ?_) fun c1 => ?_
  · walk_at "q"
    refine q_ifN (fun c2 => ?_) fun c2 => ?_
    · walk_at "q"
      have e : isKeyB z = (signs z).all keyCh := by
        rw [keyCh_all]
        unfold isKeyB
        rw [decide_eq_true (by omega)]
        rfl
      rw [e] at h
      refine itS_ret (v := .bl false) keyCh (fun ρ => ∃ x, ρ = [some (.str z), x]) trivial _ ⟨none, rfl⟩ (fun w hw ρ hρ K hy hn => ?_) (fun a ρ hρ => ?_) fun a => ?_
      · obtain ⟨x, rfl⟩ := hρ
        obtain ⟨c, _, rfl⟩ := List.mem_map.mp hw
        walk_at "q"
        have e2 : keyCh (.str ⟨#[c]⟩) = (!sLt ⟨#[c]⟩ "a" && !sLt "z" ⟨#[c]⟩) := rfl
        rw [e2] at hy hn
        refine q_if (fun c3 => ?_) fun c3 => ?_
        · rw [c3] at hy hn
          walk_at "q"
          refine q_if (fun c4 => ?_) fun c4 => ?_
          · walk_at "q"
            exact hn (by rw [show (!sLt "z" (⟨#[c]⟩ : Str)) = false by simpa using c4]; rfl)
          · walk_at "q"
            exact hy (by rw [show (!sLt "z" (⟨#[c]⟩ : Str)) = true by simpa using c4]; rfl) _ ⟨_, rfl⟩
        · rw [c3] at hy hn
          walk_at "q"
          exact hn rfl
      · rw [a] at h
        exact Rt.now h
      · rw [a] at h
        exact Rt.now h
    · walk_at "q"
      exact Rt.now (no fun q => c2 (by omega))
  · walk_at "q"
    exact Rt.now (no fun q => c1 (by omega))
@[reducible] def oS : Option Str → W
  | none => .non
  | some x => .str x
def belowB (x : Str) (y : Option Str) : Bool := match y with
  | none => true
  | some y => sLt x y
theorem sp_below {x : Str} {y : Option Str} {μ : Mu} {P : Po} {X : Xo} (h : P (.bl (belowB x y)) μ) : f_below [.str x, oS y] μ P X := by
  cases y with
  | none =>
    rw [f_below_eq]; unfold f_below_B fDef
    refine ⟨rfl, ?_⟩
    walk_at "q"
    exact Rt.now h
  | some y =>
    rw [f_below_eq]; unfold f_below_B fDef
    refine ⟨rfl, ?_⟩
    walk_at "q"
    exact Rt.now h
/-! operations -/
theorem sp_is_key_non {μ : Mu} {P : Po} {X : Xo} (h : P (.bl false) μ) : f_is_key [.non] μ P X := by
  rw [f_is_key_eq]; unfold f_is_key_B fDef
  refine ⟨rfl, ?_⟩
  walk_at "q"
  exact Rt.now h
theorem sp_is_key_int {i : Int} {μ : Mu} {P : Po} {X : Xo} (h : P (.bl false) μ) : f_is_key [.int i] μ P X := by
  rw [f_is_key_eq]; unfold f_is_key_B fDef
  refine ⟨rfl, ?_⟩
  walk_at "q"
  exact Rt.now h
theorem sp_is_key_bl {i : Bool} {μ : Mu} {P : Po} {X : Xo} (h : P (.bl false) μ) : f_is_key [.bl i] μ P X := by
  rw [f_is_key_eq]; unfold f_is_key_B fDef
  refine ⟨rfl, ?_⟩
  walk_at "q"
  exact Rt.now h
theorem sp_is_key_tup {i : List W} {μ : Mu} {P : Po} {X : Xo} (h : P (.bl false) μ) : f_is_key [.tup i] μ P X := by
  rw [f_is_key_eq]; unfold f_is_key_B fDef
  refine ⟨rfl, ?_⟩
  walk_at "q"
  exact Rt.now h
theorem sp_is_key_lst {i : List W} {μ : Mu} {P : Po} {X : Xo} (h : P (.bl false) μ) : f_is_key [.lst i] μ P X := by
  rw [f_is_key_eq]; unfold f_is_key_B fDef
  refine ⟨rfl, ?_⟩
  walk_at "q"
  exact Rt.now h
/-- a plain value: what the tests of values are asked of -/
def pl : W → Bool
  | .non | .bl _ | .int _ | .tup _ | .lst _ => true
  | .str z => decide (z.length ≤ 16000000)
  | _ => false
def keyW : W → Bool
  | .str z => isKeyB z
  | _ => false
theorem sp_key {w : W} {μ : Mu} {P : Po} {X : Xo} (hp : pl w = true) (h : P (.bl (keyW w)) μ) : f_is_key [w] μ P X := by
  cases w with
  | non => exact sp_is_key_non h
  | bl b => exact sp_is_key_bl h
  | int i => exact sp_is_key_int h
  | str z => exact sp_is_key (of_decide_eq_true hp) h
  | tup ws => exact sp_is_key_tup h
  | lst ws => exact sp_is_key_lst h
  | _ => cases hp
def boundW : W → Bool
  | .str z => isKeyB z || decide (z = "")
  | _ => false
theorem sp_bound {w : W} {μ : Mu} {P : Po} {X : Xo} (hp : pl w = true) (h : P (.bl (boundW w)) μ) : f_is_bound [w] μ P X := by
  cases w with
  | str z =>
    rw [f_is_bound_eq]; unfold f_is_bound_B fDef
    refine ⟨rfl, ?_⟩
    walk_at "q"
    refine sp_key hp ?_
    have h : P (.bl (isKeyB z || decide (z = ""))) μ := h
    cases e : keyW (.str z) with
    | true =>
      rw [show isKeyB z = true from e, Bool.true_or] at h
      walk_at "q"
      exact Rt.now h
    | false =>
      rw [show isKeyB z = false from e, Bool.false_or] at h
      walk_at "q"
      exact Rt.now h
  | ref a => cases hp
  | fn a => cases hp
  | exc a b c d => cases hp
  | rol a => cases hp
  | _ =>
    rw [f_is_bound_eq]; unfold f_is_bound_B fDef
    refine ⟨rfl, ?_⟩
    walk_at "q"
    refine sp_key hp ?_
    walk_at "q"
    exact Rt.now h
def signB (c : Nat) : Bool := decide (32 ≤ c ∧ c ≤ 126) && !decide (c = 37)
def printB (z : Str) : Bool := z.cps.toList.all signB
def signW : W → Bool
  | .str ⟨#[c]⟩ => signB c
  | _ => false
theorem l_sp : (" " : Str) = ⟨#[32]⟩ := by decide +kernel
theorem l_ti : ("~" : Str) = ⟨#[126]⟩ := by decide +kernel
theorem sp_printable {z : Str} {μ : Mu} {P : Po} {X : Xo} (h : P (.bl (printB z)) μ) : f_is_printable [.str z] μ P X := by
  rw [f_is_printable_eq]; unfold f_is_printable_B fDef
  refine ⟨rfl, ?_⟩
  walk_at "q"
  have e : printB z = (signs z).all signW := by
    unfold signs printB
    rw [List.all_map]
    rfl
  rw [e] at h
  refine itS_ret (v := .bl false) signW (fun ρ => ∃ x, ρ = [some (.str z), x]) trivial _ ⟨none, rfl⟩ (fun w hw ρ hρ K hy hn => ?_) (fun a ρ hρ => ?_) fun a => ?_
  · obtain ⟨x, rfl⟩ := hρ
    obtain ⟨c, _, rfl⟩ := List.mem_map.mp hw
    have e2 : signW (.str ⟨#[c]⟩) = (decide (32 ≤ c ∧ c ≤ 126) && !decide (c = 37)) := rfl
    have b1 : (!sLt (⟨#[c]⟩ : Str) " ") = decide (32 ≤ c) := by
      rw [l_sp, slt_one]
      by_cases q : c < 32 <;> simp [q] <;> omega
    have b2 : (!sLt "~" (⟨#[c]⟩ : Str)) = decide (c ≤ 126) := by
      rw [l_ti, slt_one]
      by_cases q : 126 < c <;> simp [q] <;> omega
    rw [e2] at hy hn
    walk_at "q"
    rw [b1]
    refine q_ifP (fun c1 => ?_) fun c1 => ?_
    · walk_at "q"
      rw [b2]
      refine q_ifN (fun c2 => ?_) fun c2 => ?_
      · walk_at "q"
        refine q_ifP (fun c3 => ?_) fun c3 => ?_
        · have c3 : (c : Int) = 37 := c3
          walk_at "q"
          exact hn (by rw [decide_eq_true (show c = 37 by omega)]; simp)
        · have c3 : ¬(c : Int) = 37 := c3
          walk_at "q"
          exact hy (by rw [decide_eq_true ⟨c1, c2⟩, decide_eq_false (show ¬c = 37 by omega)]; rfl) _ ⟨_, rfl⟩
      · walk_at "q"
        exact hn (by rw [decide_eq_false (fun z => c2 z.2)]; rfl)
    · walk_at "q"
      exact hn (by rw [decide_eq_false (fun z => c1 z.1)]; rfl)
  · rw [a] at h
    obtain ⟨x, rfl⟩ := hρ
    exact Rt.now h
  · rw [a] at h
    exact Rt.now h
def valB : W → Bool
  | .str z => printB z && decide (z.length ≤ 40)
  | _ => false
theorem sp_val {w : W} {μ : Mu} {P : Po} {X : Xo} (hp : pl w = true) (h : P (.bl (valB w)) μ) : f_is_value [w] μ P X := by
  cases w with
  | str z =>
    have hz : z.length ≤ 16000000 := of_decide_eq_true hp
    rw [f_is_value_eq]; unfold f_is_value_B fDef
    refine ⟨rfl, ?_⟩
    walk_at "q"
    refine sp_printable ?_
    have h : P (.bl (printB z && decide (z.length ≤ 40))) μ := h
    cases e : printB z with
    | true =>
      rw [e, Bool.true_and] at h
      walk_at "q"
      rw [show decide ((z.length : Int) ≤ 40) = decide (z.length ≤ 40) from decide_eq_decide.mpr (by omega)]
      exact Rt.now h
    | false =>
      rw [e, Bool.false_and] at h
      walk_at "q"
      exact Rt.now h
  | ref a => cases hp
  | fn a => cases hp
  | exc a b c d => cases hp
  | rol a => cases hp
  | _ =>
    rw [f_is_value_eq]; unfold f_is_value_B fDef
    refine ⟨rfl, ?_⟩
    walk_at "q"
    rw [f_is_printable_eq]; unfold f_is_printable_B fDef
    refine ⟨rfl, ?_⟩
    walk_at "q"
    refine Rt.now ?_
    walk_at "q"
    exact Rt.now h
def intB (w : W) (a b : Int) : Bool := match w with
  | .int i => decide (a ≤ i) && decide (i ≤ b)
  | _ => false
theorem sp_int {w : W} {a b : Int} {μ : Mu} {P : Po} {X : Xo} (hp : pl w = true) (h : P (.bl (intB w a b)) μ) : f_is_integer [w, .int a, .int b] μ P X := by
  cases w with
  | int i => exact sp_is_integer h
  | ref a => cases hp
  | fn a => cases hp
  | exc a b c d => cases hp
  | rol a => cases hp
  | _ =>
    rw [f_is_integer_eq]; unfold f_is_integer_B fDef
    refine ⟨rfl, ?_⟩
    walk_at "q"
    exact Rt.now h
/-- an operation, told of the parts of a tuple -/
def opB : List W → Bool
  | [.str k, a] => (decide (k = "get") || decide (k = "drop")) && keyW a
  | [.str k, a, b] => (decide (k = "put") && (keyW a && valB b)) || (decide (k = "page") && (boundW a && intB b 1 50))
  | [.str k, a, b, c] => decide (k = "swap") && (keyW a && (valB b && valB c))
  | _ => false
theorem sp__is_key_alone {ws : List W} {μ : Mu} {P : Po} {X : Xo} (hp : ∀ w ∈ ws, pl w = true) (h : P (.bl (match ws with
  | [_, a] => keyW a
  | _ => false)) μ) : f__is_key_alone [.tup ws] μ P X := by
  rw [f__is_key_alone_eq]; unfold f__is_key_alone_B fDef
  refine ⟨rfl, ?_⟩
  match ws, hp, h with
  | [x, a], hp, h =>
    walk_at "q"
    refine q_t rfl ?_
    walk_at "q"
    refine sp_key (hp a (by simp)) ?_
    exact Rt.now h
  | [], hp, h =>
    walk_at "q"
    exact Rt.now h
  | [x], hp, h =>
    walk_at "q"
    refine q_f rfl ?_
    exact Rt.now h
  | x :: y :: z :: r, hp, h =>
    walk_at "q"
    refine q_f (decide_eq_false (by simp only [List.length_cons]; omega)) ?_
    exact Rt.now h
theorem sp__is_put {ws : List W} {μ : Mu} {P : Po} {X : Xo} (hp : ∀ w ∈ ws, pl w = true) (h : P (.bl (match ws with
  | [_, a, b] => keyW a && valB b
  | _ => false)) μ) : f__is_put [.tup ws] μ P X := by
  rw [f__is_put_eq]; unfold f__is_put_B fDef
  refine ⟨rfl, ?_⟩
  match ws, hp, h with
  | [x, a, b], hp, h =>
    walk_at "q"
    refine q_t rfl ?_
    walk_at "q"
    refine sp_key (hp a (by simp)) ?_
    have h : P (.bl (keyW a && valB b)) μ := h
    cases e : keyW a with
    | true =>
      rw [e, Bool.true_and] at h
      walk_at "q"
      refine sp_val (hp b (by simp)) ?_
      exact Rt.now h
    | false =>
      rw [e, Bool.false_and] at h
      walk_at "q"
      exact Rt.now h
  | [], hp, h =>
    walk_at "q"
    exact Rt.now h
  | [x], hp, h =>
    walk_at "q"
    refine q_f rfl ?_
    exact Rt.now h
  | [x, y], hp, h =>
    walk_at "q"
    refine q_f rfl ?_
    exact Rt.now h
  | x :: y :: z :: u :: r, hp, h =>
    walk_at "q"
    refine q_f (decide_eq_false (by simp only [List.length_cons]; omega)) ?_
    exact Rt.now h
theorem sp__is_swap {ws : List W} {μ : Mu} {P : Po} {X : Xo} (hp : ∀ w ∈ ws, pl w = true) (h : P (.bl (match ws with
  | [_, a, b, c] => keyW a && (valB b && valB c)
  | _ => false)) μ) : f__is_swap [.tup ws] μ P X := by
  rw [f__is_swap_eq]; unfold f__is_swap_B fDef
  refine ⟨rfl, ?_⟩
  match ws, hp, h with
  | [x, a, b, c], hp, h =>
    walk_at "q"
    refine q_t rfl ?_
    walk_at "q"
    refine sp_key (hp a (by simp)) ?_
    have h : P (.bl (keyW a && (valB b && valB c))) μ := h
    cases e : keyW a with
    | true =>
      rw [e, Bool.true_and] at h
      walk_at "q"
      refine sp_val (hp b (by simp)) ?_
      cases e2 : valB b with
      | true =>
        rw [e2, Bool.true_and] at h
        walk_at "q"
        refine sp_val (hp c (by simp)) ?_
        exact Rt.now h
      | false =>
        rw [e2, Bool.false_and] at h
        walk_at "q"
        exact Rt.now h
    | false =>
      rw [e, Bool.false_and] at h
      walk_at "q"
      exact Rt.now h
  | [], hp, h =>
    walk_at "q"
    exact Rt.now h
  | [x], hp, h =>
    walk_at "q"
    refine q_f rfl ?_
    exact Rt.now h
  | [x, y], hp, h =>
    walk_at "q"
    refine q_f rfl ?_
    exact Rt.now h
  | [x, y, z], hp, h =>
    walk_at "q"
    refine q_f rfl ?_
    exact Rt.now h
  | x :: y :: z :: u :: v :: r, hp, h =>
    walk_at "q"
    refine q_f (decide_eq_false (by simp only [List.length_cons]; omega)) ?_
    exact Rt.now h
theorem sp__is_page {ws : List W} {μ : Mu} {P : Po} {X : Xo} (hp : ∀ w ∈ ws, pl w = true) (h : P (.bl (match ws with
  | [_, a, b] => boundW a && intB b 1 50
  | _ => false)) μ) : f__is_page [.tup ws] μ P X := by
  rw [f__is_page_eq]; unfold f__is_page_B fDef
  refine ⟨rfl, ?_⟩
  match ws, hp, h with
  | [x, a, b], hp, h =>
    walk_at "q"
    refine q_t rfl ?_
    walk_at "q"
    refine sp_bound (hp a (by simp)) ?_
    have h : P (.bl (boundW a && intB b 1 50)) μ := h
    cases e : boundW a with
    | true =>
      rw [e, Bool.true_and] at h
      walk_at "q"
      refine sp_int (hp b (by simp)) ?_
      exact Rt.now h
    | false =>
      rw [e, Bool.false_and] at h
      walk_at "q"
      exact Rt.now h
  | [], hp, h =>
    walk_at "q"
    exact Rt.now h
  | [x], hp, h =>
    walk_at "q"
    refine q_f rfl ?_
    exact Rt.now h
  | [x, y], hp, h =>
    walk_at "q"
    refine q_f rfl ?_
    exact Rt.now h
  | x :: y :: z :: u :: r, hp, h =>
    walk_at "q"
    refine q_f (decide_eq_false (by simp only [List.length_cons]; omega)) ?_
    exact Rt.now h
theorem opB_kind {k : Str} {r : List W} (h : k ∉ (["get", "put", "drop", "swap", "page"] : List Str)) : opB (.str k :: r) = false := by
  simp only [List.mem_cons, List.not_mem_nil, or_false, not_or] at h
  obtain ⟨h1, h2, h3, h4, h5⟩ := h
  match r with
  | [] => rfl
  | [a] =>
    show ((decide (k = "get") || decide (k = "drop")) && keyW a) = false
    rw [decide_eq_false h1, decide_eq_false h3]
    rfl
  | [a, b] =>
    show ((decide (k = "put") && (keyW a && valB b)) || (decide (k = "page") && (boundW a && intB b 1 50))) = false
    rw [decide_eq_false h2, decide_eq_false h5]
    rfl
  | [a, b, c] =>
    show (decide (k = "swap") && (keyW a && (valB b && valB c))) = false
    rw [decide_eq_false h4]
    rfl
  | _ :: _ :: _ :: _ :: _ => rfl
theorem sp_is_op {k : Str} {r : List W} {μ : Mu} {P : Po} {X : Xo} (hp : ∀ w ∈ r, pl w = true) (hk : k.length ≤ 16000000) (h : P (.bl (opB (.str k :: r))) μ) : f_is_operation [.tup (.str k :: r)] μ P X := by
  have hp2 : ∀ w ∈ W.str k :: r, pl w = true := fun w hw => by
    rcases List.mem_cons.mp hw with rfl | hw
    · exact decide_eq_true hk
    · exact hp w hw
  rw [f_is_operation_eq]; unfold f_is_operation_B fDef
  refine ⟨rfl, ?_⟩
  walk_at "q"
  refine sp_kind_tup ?_
  walk_at "q"
  by_cases hm : k ∈ (["get", "put", "drop", "swap", "page"] : List Str)
  · simp only [List.mem_cons, List.not_mem_nil, or_false] at hm
    rcases hm with rfl | rfl | rfl | rfl | rfl
    · walk_at "q"
      refine q_cl (f := f__is_key_alone) (by walk_at "lk") ?_
      walk_at "q"
      refine sp__is_key_alone hp2 ?_
      refine Rt.now ?_
      match r, h with
      | [], h => exact h
      | [a], h => exact h
      | [a, b], h => exact h
      | [a, b, c], h => exact h
      | _ :: _ :: _ :: _ :: _, h => exact h
    · walk_at "q"
      refine q_cl (f := f__is_put) (by walk_at "lk") ?_
      walk_at "q"
      refine sp__is_put hp2 ?_
      refine Rt.now ?_
      match r, h with
      | [], h => exact h
      | [a], h => exact h
      | [a, b], h =>
        have h : P (.bl ((decide (("put" : Str) = "put") && (keyW a && valB b)) || (decide (("put" : Str) = "page") && (boundW a && intB b 1 50)))) μ := h
        rw [decide_eq_true rfl, show decide (("put" : Str) = "page") = false by decide +kernel, Bool.true_and, Bool.false_and, Bool.or_false] at h
        exact h
      | [a, b, c], h => exact h
      | _ :: _ :: _ :: _ :: _, h => exact h
    · walk_at "q"
      refine q_cl (f := f__is_key_alone) (by walk_at "lk") ?_
      walk_at "q"
      refine sp__is_key_alone hp2 ?_
      refine Rt.now ?_
      match r, h with
      | [], h => exact h
      | [a], h => exact h
      | [a, b], h => exact h
      | [a, b, c], h => exact h
      | _ :: _ :: _ :: _ :: _, h => exact h
    · walk_at "q"
      refine q_cl (f := f__is_swap) (by walk_at "lk") ?_
      walk_at "q"
      refine sp__is_swap hp2 ?_
      refine Rt.now ?_
      match r, h with
      | [], h => exact h
      | [a], h => exact h
      | [a, b], h => exact h
      | [a, b, c], h => exact h
      | _ :: _ :: _ :: _ :: _, h => exact h
    · walk_at "q"
      refine q_cl (f := f__is_page) (by walk_at "lk") ?_
      walk_at "q"
      refine sp__is_page hp2 ?_
      refine Rt.now ?_
      match r, h with
      | [], h => exact h
      | [a], h => exact h
      | [a, b], h =>
        have h : P (.bl ((decide (("page" : Str) = "put") && (keyW a && valB b)) || (decide (("page" : Str) = "page") && (boundW a && intB b 1 50)))) μ := h
        rw [decide_eq_true (rfl : ("page" : Str) = "page"), show decide (("page" : Str) = "put") = false by decide +kernel, Bool.true_and, Bool.false_and, Bool.false_or] at h
        exact h
      | [a, b, c], h => exact h
      | _ :: _ :: _ :: _ :: _, h => exact h
  · rw [opB_kind hm] at h
    refine q_t (by
      rw [show decide (k ∈ ([("get", W.fn "_is_key_alone"), ("put", .fn "_is_put"), ("drop", .fn "_is_key_alone"), ("swap", .fn "_is_swap"), ("page", .fn "_is_page")] : List (Str × W)).map (·.1)) = false from decide_eq_false hm]
      rfl) ?_
    walk_at "q"
    exact Rt.now h
end Q
namespace Mspan
/-! lists of spans over numbered bounds: fusing, the parts in and outside of a range, filling -/
abbrev Sp (β : Type) : Type := Nat × Nat × β
section
variable {β : Type} [DecidableEq β]
/-- the last is the first: neighbours of the same worth as one -/
def step (r : List (Sp β)) (x : Sp β) : List (Sp β) := match r with
  | l :: t => if l.2.1 = x.1 ∧ l.2.2 = x.2.2 then (l.1, x.2.1, x.2.2) :: t else x :: l :: t
  | [] => [x]
def Pos (S : List (Sp β)) : Prop := ∀ x ∈ S, x.1 < x.2.1
/-! what fusing makes -/
/-! cell by cell -/
/-! ### the parts in and outside of a range -/
variable {lo hi : Nat} {S : List (Sp β)}
/-! ### filling -/
/-! ### the worths changed, sorted -/
end
end Mspan
namespace Q
open PySem L2
local macro_rules | `(tactic| walk_at "mu") => `(tactic| (repeat (first | exact mset_same | assumption | (rw [mset_ne]; rotate_left; (first | assumption | exact Ne.symm (by assumption))))))
local macro_rules | `(tactic| walk_at "lk") => `(tactic| (repeat (first | exact lk_hit | exact lk_nil | refine lk_skip (by decide +kernel) ?_)))
local macro_rules | `(tactic| walk_at "pf") => `(tactic| (repeat (first | rw [pf_nil] | rw [pf_hit] | (rw [pf_skip]; rotate_left; (focus (decide +kernel; done))))))
local macro_rules | `(tactic| walk_at "q") => `(tactic| ((with_reducible conv => whnf); repeat (first
  | (with_reducible refine q_t (by assumption) ?_; with_reducible conv => whnf)
  | (with_reducible refine q_f (by assumption) ?_; with_reducible conv => whnf)
  | (with_reducible refine q_t (by with_reducible rfl) ?_; with_reducible conv => whnf)
  | (with_reducible refine q_f (by with_reducible rfl) ?_; with_reducible conv => whnf)
  | (with_reducible refine q_t (by decide) ?_; with_reducible conv => whnf)
  | (with_reducible refine q_f (by decide) ?_; with_reducible conv => whnf)
  | (with_reducible refine q_t (decide_eq_true (by omega)) ?_; with_reducible conv => whnf)
  | (with_reducible refine q_f (decide_eq_false (by omega)) ?_; with_reducible conv => whnf)
  | (with_reducible refine q_f (q_nn (by omega)) ?_; with_reducible conv => whnf)
  | (with_reducible refine q_t (q_nt (by omega)) ?_; with_reducible conv => whnf)
  | (with_reducible refine q_len (by with_unfolding_all rfl) ?_; with_reducible conv => whnf)
  | (with_reducible refine q_leq (by with_unfolding_all rfl) ?_; with_reducible conv => whnf)
  | (with_reducible refine q_and (by first | assumption | exact True.intro | omega | (simp only [List.length_map, List.length_append, List.length_cons, List.length_nil]; omega) | decide) ?_; with_reducible conv => whnf)
  | (with_reducible refine q_le (by with_unfolding_all rfl) ?_; with_reducible conv => whnf)
  | (with_reducible refine q_and tyL_lst ?_; with_reducible conv => whnf)
  | (with_reducible refine q_and tyL_rol ?_; with_reducible conv => whnf)
  | (with_reducible refine q_and (tyL_ref (by walk_at "mu")) ?_; with_reducible conv => whnf)
  | (with_reducible refine q_and (tyD_ref (by walk_at "mu")) ?_; with_reducible conv => whnf)
  | (with_reducible refine q_and (rdD_ref (by walk_at "mu")) ?_; with_reducible conv => whnf)
  | (rw [pick_c0]; with_reducible conv => whnf)
  | (rw [pick_c1]; with_reducible conv => whnf)
  | (rw [pick_c2]; with_reducible conv => whnf)
  | (rw [pick_c3]; with_reducible conv => whnf)
  | (rw [pick_c4]; with_reducible conv => whnf)
  | (rw [pick_c5]; with_reducible conv => whnf)
  | (rw [mset_same]; with_reducible conv => whnf)
  | (rw [mset_ne (by assumption)]; with_reducible conv => whnf)
  | (rw [mset_ne]; rotate_left; (first | assumption | exact Ne.symm (by assumption)); with_reducible conv => whnf)
  | (rw [rdL_ref]; rotate_left; (focus (walk_at "mu"; done)); with_reducible conv => whnf)
  | (rw [rdL_refD]; rotate_left; (focus (walk_at "mu"; done)); with_reducible conv => whnf)
  | (rw [rdD_refD]; rotate_left; (focus (walk_at "mu"; done)); with_reducible conv => whnf)
  | (rw [rdM_ref]; rotate_left; (focus (walk_at "mu"; done)); with_reducible conv => whnf)
  | (rw [rdL_refK]; rotate_left; (focus (walk_at "mu"; done)); with_reducible conv => whnf)
  | (rw [rdD_refK]; rotate_left; (focus (walk_at "mu"; done)); with_reducible conv => whnf)
  | (rw [tyW_refL]; rotate_left; (focus (walk_at "mu"; done)); with_reducible conv => whnf)
  | (rw [tyW_refD]; rotate_left; (focus (walk_at "mu"; done)); with_reducible conv => whnf)
  | (rw [drf_ref]; rotate_left; (focus (walk_at "mu"; done)); with_reducible conv => whnf)
  | ((conv => (arg 2; tactic' => (walk_at "mu"; done))); with_reducible conv => whnf)
  | (with_reducible refine q_and (Eq.refl _) ?_; with_reducible conv => whnf)
  | (with_reducible refine q_and (MulO.r (by decide)) ?_; with_reducible conv => whnf)
  | (with_reducible refine q_and (MulO.l (by decide)) ?_; with_reducible conv => whnf)
  | (with_reducible refine q_and (MulO.r (by omega)) ?_; with_reducible conv => whnf)
  | (with_reducible refine q_and (MulO.l (by omega)) ?_; with_reducible conv => whnf)
  | (with_reducible refine q_pow (by decide) ?_; with_reducible conv => whnf)
  | (with_reducible refine q_nisT (by first | assumption | with_reducible rfl) ?_; with_reducible conv => whnf)
  | (with_reducible refine q_nisF (by first | assumption | with_reducible rfl) ?_; with_reducible conv => whnf)
  | (with_reducible refine q_eqI ?_; with_reducible conv => whnf)
  | (with_reducible refine q_eqS ?_; with_reducible conv => whnf)
  | (with_reducible refine q_eqB ?_; with_reducible conv => whnf)
  | (with_reducible refine q_neI ?_; with_reducible conv => whnf)
  | (with_reducible refine q_neS ?_; with_reducible conv => whnf)
  | (with_reducible refine q_neB ?_; with_reducible conv => whnf)
  | (with_reducible refine q_memc ?_; with_reducible conv => whnf)
  | (with_reducible refine q_lkn (by walk_at "lk") ?_; with_reducible conv => whnf)
  | (with_reducible refine q_tix (by walk_at "lk"; done) ?_; with_reducible conv => whnf)
  | (with_reducible refine q_tin ?_; with_reducible conv => whnf)
  | (rw [pf_hit]; with_reducible conv => whnf)
  | (rw [pf_skip]; rotate_left; (focus (decide +kernel; done)); with_reducible conv => whnf)
  | (rw [lk_hit]; with_reducible conv => whnf)
  | (rw [lk_skip1]; rotate_left; (focus (decide +kernel; done)); with_reducible conv => whnf))))
/-! spans: bounds told by their numbers -/
section
open Mspan
variable {n : Nat} {b : Nat → Str} {β : Type} [DecidableEq β] {ew : β → W}
def bo (b : Nat → Str) (n i : Nat) : Option Str := if i < n then some (b i) else none
abbrev bw (b : Nat → Str) (n i : Nat) : W := oS (bo b n i)
/-- a span as a row -/
def en (b : Nat → Str) (n : Nat) (ew : β → W) (x : Sp β) : W := .tup [bw b n x.1, bw b n x.2.1, ew x.2.2]
end
end Q
namespace Q
open PySem L2
local macro_rules | `(tactic| walk_at "mu") => `(tactic| (repeat (first | exact mset_same | assumption | (rw [mset_ne]; rotate_left; (first | assumption | exact Ne.symm (by assumption))))))
local macro_rules | `(tactic| walk_at "lk") => `(tactic| (repeat (first | exact lk_hit | exact lk_nil | refine lk_skip (by decide +kernel) ?_)))
local macro_rules | `(tactic| walk_at "pf") => `(tactic| (repeat (first | rw [pf_nil] | rw [pf_hit] | (rw [pf_skip]; rotate_left; (focus (decide +kernel; done))))))
local macro_rules | `(tactic| walk_at "q") => `(tactic| ((with_reducible conv => whnf); repeat (first
  | (with_reducible refine q_t (by assumption) ?_; with_reducible conv => whnf)
  | (with_reducible refine q_f (by assumption) ?_; with_reducible conv => whnf)
  | (with_reducible refine q_t (by with_reducible rfl) ?_; with_reducible conv => whnf)
  | (with_reducible refine q_f (by with_reducible rfl) ?_; with_reducible conv => whnf)
  | (with_reducible refine q_t (by decide) ?_; with_reducible conv => whnf)
  | (with_reducible refine q_f (by decide) ?_; with_reducible conv => whnf)
  | (with_reducible refine q_t (decide_eq_true (by omega)) ?_; with_reducible conv => whnf)
  | (with_reducible refine q_f (decide_eq_false (by omega)) ?_; with_reducible conv => whnf)
  | (with_reducible refine q_f (q_nn (by omega)) ?_; with_reducible conv => whnf)
  | (with_reducible refine q_t (q_nt (by omega)) ?_; with_reducible conv => whnf)
  | (with_reducible refine q_len (by with_unfolding_all rfl) ?_; with_reducible conv => whnf)
  | (with_reducible refine q_leq (by with_unfolding_all rfl) ?_; with_reducible conv => whnf)
  | (with_reducible refine q_and (by first | assumption | exact True.intro | omega | (simp only [List.length_map, List.length_append, List.length_cons, List.length_nil]; omega) | decide) ?_; with_reducible conv => whnf)
  | (with_reducible refine q_le (by with_unfolding_all rfl) ?_; with_reducible conv => whnf)
  | (with_reducible refine q_and tyL_lst ?_; with_reducible conv => whnf)
  | (with_reducible refine q_and tyL_rol ?_; with_reducible conv => whnf)
  | (with_reducible refine q_and (tyL_ref (by walk_at "mu")) ?_; with_reducible conv => whnf)
  | (with_reducible refine q_and (tyD_ref (by walk_at "mu")) ?_; with_reducible conv => whnf)
  | (with_reducible refine q_and (rdD_ref (by walk_at "mu")) ?_; with_reducible conv => whnf)
  | (rw [pick_c0]; with_reducible conv => whnf)
  | (rw [pick_c1]; with_reducible conv => whnf)
  | (rw [pick_c2]; with_reducible conv => whnf)
  | (rw [pick_c3]; with_reducible conv => whnf)
  | (rw [pick_c4]; with_reducible conv => whnf)
  | (rw [pick_c5]; with_reducible conv => whnf)
  | (rw [mset_same]; with_reducible conv => whnf)
  | (rw [mset_ne (by assumption)]; with_reducible conv => whnf)
  | (rw [mset_ne]; rotate_left; (first | assumption | exact Ne.symm (by assumption)); with_reducible conv => whnf)
  | (rw [rdL_ref]; rotate_left; (focus (walk_at "mu"; done)); with_reducible conv => whnf)
  | (rw [rdL_refD]; rotate_left; (focus (walk_at "mu"; done)); with_reducible conv => whnf)
  | (rw [rdD_refD]; rotate_left; (focus (walk_at "mu"; done)); with_reducible conv => whnf)
  | (rw [rdM_ref]; rotate_left; (focus (walk_at "mu"; done)); with_reducible conv => whnf)
  | (rw [rdL_refK]; rotate_left; (focus (walk_at "mu"; done)); with_reducible conv => whnf)
  | (rw [rdD_refK]; rotate_left; (focus (walk_at "mu"; done)); with_reducible conv => whnf)
  | (rw [tyW_refL]; rotate_left; (focus (walk_at "mu"; done)); with_reducible conv => whnf)
  | (rw [tyW_refD]; rotate_left; (focus (walk_at "mu"; done)); with_reducible conv => whnf)
  | (rw [drf_ref]; rotate_left; (focus (walk_at "mu"; done)); with_reducible conv => whnf)
  | ((conv => (arg 2; tactic' => (walk_at "mu"; done))); with_reducible conv => whnf)
  | (with_reducible refine q_and (Eq.refl _) ?_; with_reducible conv => whnf)
  | (with_reducible refine q_and (MulO.r (by decide)) ?_; with_reducible conv => whnf)
  | (with_reducible refine q_and (MulO.l (by decide)) ?_; with_reducible conv => whnf)
  | (with_reducible refine q_and (MulO.r (by omega)) ?_; with_reducible conv => whnf)
  | (with_reducible refine q_and (MulO.l (by omega)) ?_; with_reducible conv => whnf)
  | (with_reducible refine q_pow (by decide) ?_; with_reducible conv => whnf)
  | (with_reducible refine q_nisT (by first | assumption | with_reducible rfl) ?_; with_reducible conv => whnf)
  | (with_reducible refine q_nisF (by first | assumption | with_reducible rfl) ?_; with_reducible conv => whnf)
  | (with_reducible refine q_eqI ?_; with_reducible conv => whnf)
  | (with_reducible refine q_eqS ?_; with_reducible conv => whnf)
  | (with_reducible refine q_eqB ?_; with_reducible conv => whnf)
  | (with_reducible refine q_neI ?_; with_reducible conv => whnf)
  | (with_reducible refine q_neS ?_; with_reducible conv => whnf)
  | (with_reducible refine q_neB ?_; with_reducible conv => whnf)
  | (with_reducible refine q_memc ?_; with_reducible conv => whnf)
  | (with_reducible refine q_lkn (by walk_at "lk") ?_; with_reducible conv => whnf)
  | (with_reducible refine q_tix (by walk_at "lk"; done) ?_; with_reducible conv => whnf)
  | (with_reducible refine q_tin ?_; with_reducible conv => whnf)
  | (rw [pf_hit]; with_reducible conv => whnf)
  | (rw [pf_skip]; rotate_left; (focus (decide +kernel; done)); with_reducible conv => whnf)
  | (rw [lk_hit]; with_reducible conv => whnf)
  | (rw [lk_skip1]; rotate_left; (focus (decide +kernel; done)); with_reducible conv => whnf))))
/-! k48: reports, Routes -/
section
open Mspan
structure Rep where
  lo : Str
  hi : Option Str
  ep : Int
  x : Int
  y : Int
  mid : Str
deriving DecidableEq
def ew (r : Rep) : W := .tup [.str r.lo, oS r.hi, .int r.ep, .int r.x, .int r.y, .str r.mid]
/-- the newer one -/
def nw (r o : Rep) : Rep := if o.ep ≤ r.ep then r else o
end
end Q
namespace Q
open PySem L2
local macro_rules | `(tactic| walk_at "mu") => `(tactic| (repeat (first | exact mset_same | assumption | (rw [mset_ne]; rotate_left; (first | assumption | exact Ne.symm (by assumption))))))
local macro_rules | `(tactic| walk_at "lk") => `(tactic| (repeat (first | exact lk_hit | exact lk_nil | refine lk_skip (by decide +kernel) ?_)))
local macro_rules | `(tactic| walk_at "pf") => `(tactic| (repeat (first | rw [pf_nil] | rw [pf_hit] | (rw [pf_skip]; rotate_left; (focus (decide +kernel; done))))))
local macro_rules | `(tactic| walk_at "q") => `(tactic| ((with_reducible conv => whnf); repeat (first
  | (with_reducible refine q_t (by assumption) ?_; with_reducible conv => whnf)
  | (with_reducible refine q_f (by assumption) ?_; with_reducible conv => whnf)
  | (with_reducible refine q_t (by with_reducible rfl) ?_; with_reducible conv => whnf)
  | (with_reducible refine q_f (by with_reducible rfl) ?_; with_reducible conv => whnf)
  | (with_reducible refine q_t (by decide) ?_; with_reducible conv => whnf)
  | (with_reducible refine q_f (by decide) ?_; with_reducible conv => whnf)
  | (with_reducible refine q_t (decide_eq_true (by omega)) ?_; with_reducible conv => whnf)
  | (with_reducible refine q_f (decide_eq_false (by omega)) ?_; with_reducible conv => whnf)
  | (with_reducible refine q_f (q_nn (by omega)) ?_; with_reducible conv => whnf)
  | (with_reducible refine q_t (q_nt (by omega)) ?_; with_reducible conv => whnf)
  | (with_reducible refine q_len (by with_unfolding_all rfl) ?_; with_reducible conv => whnf)
  | (with_reducible refine q_leq (by with_unfolding_all rfl) ?_; with_reducible conv => whnf)
  | (with_reducible refine q_and (by first | assumption | exact True.intro | omega | (simp only [List.length_map, List.length_append, List.length_cons, List.length_nil]; omega) | decide) ?_; with_reducible conv => whnf)
  | (with_reducible refine q_le (by with_unfolding_all rfl) ?_; with_reducible conv => whnf)
  | (with_reducible refine q_and tyL_lst ?_; with_reducible conv => whnf)
  | (with_reducible refine q_and tyL_rol ?_; with_reducible conv => whnf)
  | (with_reducible refine q_and (tyL_ref (by walk_at "mu")) ?_; with_reducible conv => whnf)
  | (with_reducible refine q_and (tyD_ref (by walk_at "mu")) ?_; with_reducible conv => whnf)
  | (with_reducible refine q_and (rdD_ref (by walk_at "mu")) ?_; with_reducible conv => whnf)
  | (rw [pick_c0]; with_reducible conv => whnf)
  | (rw [pick_c1]; with_reducible conv => whnf)
  | (rw [pick_c2]; with_reducible conv => whnf)
  | (rw [pick_c3]; with_reducible conv => whnf)
  | (rw [pick_c4]; with_reducible conv => whnf)
  | (rw [pick_c5]; with_reducible conv => whnf)
  | (rw [mset_same]; with_reducible conv => whnf)
  | (rw [mset_ne (by assumption)]; with_reducible conv => whnf)
  | (rw [mset_ne]; rotate_left; (first | assumption | exact Ne.symm (by assumption)); with_reducible conv => whnf)
  | (rw [rdL_ref]; rotate_left; (focus (walk_at "mu"; done)); with_reducible conv => whnf)
  | (rw [rdL_refD]; rotate_left; (focus (walk_at "mu"; done)); with_reducible conv => whnf)
  | (rw [rdD_refD]; rotate_left; (focus (walk_at "mu"; done)); with_reducible conv => whnf)
  | (rw [rdM_ref]; rotate_left; (focus (walk_at "mu"; done)); with_reducible conv => whnf)
  | (rw [rdL_refK]; rotate_left; (focus (walk_at "mu"; done)); with_reducible conv => whnf)
  | (rw [rdD_refK]; rotate_left; (focus (walk_at "mu"; done)); with_reducible conv => whnf)
  | (rw [tyW_refL]; rotate_left; (focus (walk_at "mu"; done)); with_reducible conv => whnf)
  | (rw [tyW_refD]; rotate_left; (focus (walk_at "mu"; done)); with_reducible conv => whnf)
  | (rw [drf_ref]; rotate_left; (focus (walk_at "mu"; done)); with_reducible conv => whnf)
  | ((conv => (arg 2; tactic' => (walk_at "mu"; done))); with_reducible conv => whnf)
  | (with_reducible refine q_and (Eq.refl _) ?_; with_reducible conv => whnf)
  | (with_reducible refine q_and (MulO.r (by decide)) ?_; with_reducible conv => whnf)
  | (with_reducible refine q_and (MulO.l (by decide)) ?_; with_reducible conv => whnf)
  | (with_reducible refine q_and (MulO.r (by omega)) ?_; with_reducible conv => whnf)
  | (with_reducible refine q_and (MulO.l (by omega)) ?_; with_reducible conv => whnf)
  | (with_reducible refine q_pow (by decide) ?_; with_reducible conv => whnf)
  | (with_reducible refine q_nisT (by first | assumption | with_reducible rfl) ?_; with_reducible conv => whnf)
  | (with_reducible refine q_nisF (by first | assumption | with_reducible rfl) ?_; with_reducible conv => whnf)
  | (with_reducible refine q_eqI ?_; with_reducible conv => whnf)
  | (with_reducible refine q_eqS ?_; with_reducible conv => whnf)
  | (with_reducible refine q_eqB ?_; with_reducible conv => whnf)
  | (with_reducible refine q_neI ?_; with_reducible conv => whnf)
  | (with_reducible refine q_neS ?_; with_reducible conv => whnf)
  | (with_reducible refine q_neB ?_; with_reducible conv => whnf)
  | (with_reducible refine q_memc ?_; with_reducible conv => whnf)
  | (with_reducible refine q_lkn (by walk_at "lk") ?_; with_reducible conv => whnf)
  | (with_reducible refine q_tix (by walk_at "lk"; done) ?_; with_reducible conv => whnf)
  | (with_reducible refine q_tin ?_; with_reducible conv => whnf)
  | (rw [pf_hit]; with_reducible conv => whnf)
  | (rw [pf_skip]; rotate_left; (focus (decide +kernel; done)); with_reducible conv => whnf)
  | (rw [lk_hit]; with_reducible conv => whnf)
  | (rw [lk_skip1]; rotate_left; (focus (decide +kernel; done)); with_reducible conv => whnf))))
/-! k48: find, drop, pieces; the law's own defs -/
section
open Mspan
/-! what the law knows: a call and its report for each of the nine cells -/
abbrev Cell : Type := Option (Int × Rep)
end
end Q
namespace Q
open PySem L2
local macro_rules | `(tactic| walk_at "mu") => `(tactic| (repeat (first | exact mset_same | assumption | (rw [mset_ne]; rotate_left; (first | assumption | exact Ne.symm (by assumption))))))
local macro_rules | `(tactic| walk_at "lk") => `(tactic| (repeat (first | exact lk_hit | exact lk_nil | refine lk_skip (by decide +kernel) ?_)))
local macro_rules | `(tactic| walk_at "pf") => `(tactic| (repeat (first | rw [pf_nil] | rw [pf_hit] | (rw [pf_skip]; rotate_left; (focus (decide +kernel; done))))))
local macro_rules | `(tactic| walk_at "q") => `(tactic| ((with_reducible conv => whnf); repeat (first
  | (with_reducible refine q_t (by assumption) ?_; with_reducible conv => whnf)
  | (with_reducible refine q_f (by assumption) ?_; with_reducible conv => whnf)
  | (with_reducible refine q_t (by with_reducible rfl) ?_; with_reducible conv => whnf)
  | (with_reducible refine q_f (by with_reducible rfl) ?_; with_reducible conv => whnf)
  | (with_reducible refine q_t (by decide) ?_; with_reducible conv => whnf)
  | (with_reducible refine q_f (by decide) ?_; with_reducible conv => whnf)
  | (with_reducible refine q_t (decide_eq_true (by omega)) ?_; with_reducible conv => whnf)
  | (with_reducible refine q_f (decide_eq_false (by omega)) ?_; with_reducible conv => whnf)
  | (with_reducible refine q_f (q_nn (by omega)) ?_; with_reducible conv => whnf)
  | (with_reducible refine q_t (q_nt (by omega)) ?_; with_reducible conv => whnf)
  | (with_reducible refine q_len (by with_unfolding_all rfl) ?_; with_reducible conv => whnf)
  | (with_reducible refine q_leq (by with_unfolding_all rfl) ?_; with_reducible conv => whnf)
  | (with_reducible refine q_and (by first | assumption | exact True.intro | omega | (simp only [List.length_map, List.length_append, List.length_cons, List.length_nil]; omega) | decide) ?_; with_reducible conv => whnf)
  | (with_reducible refine q_le (by with_unfolding_all rfl) ?_; with_reducible conv => whnf)
  | (with_reducible refine q_and tyL_lst ?_; with_reducible conv => whnf)
  | (with_reducible refine q_and tyL_rol ?_; with_reducible conv => whnf)
  | (with_reducible refine q_and (tyL_ref (by walk_at "mu")) ?_; with_reducible conv => whnf)
  | (with_reducible refine q_and (tyD_ref (by walk_at "mu")) ?_; with_reducible conv => whnf)
  | (with_reducible refine q_and (rdD_ref (by walk_at "mu")) ?_; with_reducible conv => whnf)
  | (rw [pick_c0]; with_reducible conv => whnf)
  | (rw [pick_c1]; with_reducible conv => whnf)
  | (rw [pick_c2]; with_reducible conv => whnf)
  | (rw [pick_c3]; with_reducible conv => whnf)
  | (rw [pick_c4]; with_reducible conv => whnf)
  | (rw [pick_c5]; with_reducible conv => whnf)
  | (rw [mset_same]; with_reducible conv => whnf)
  | (rw [mset_ne (by assumption)]; with_reducible conv => whnf)
  | (rw [mset_ne]; rotate_left; (first | assumption | exact Ne.symm (by assumption)); with_reducible conv => whnf)
  | (rw [rdL_ref]; rotate_left; (focus (walk_at "mu"; done)); with_reducible conv => whnf)
  | (rw [rdL_refD]; rotate_left; (focus (walk_at "mu"; done)); with_reducible conv => whnf)
  | (rw [rdD_refD]; rotate_left; (focus (walk_at "mu"; done)); with_reducible conv => whnf)
  | (rw [rdM_ref]; rotate_left; (focus (walk_at "mu"; done)); with_reducible conv => whnf)
  | (rw [rdL_refK]; rotate_left; (focus (walk_at "mu"; done)); with_reducible conv => whnf)
  | (rw [rdD_refK]; rotate_left; (focus (walk_at "mu"; done)); with_reducible conv => whnf)
  | (rw [tyW_refL]; rotate_left; (focus (walk_at "mu"; done)); with_reducible conv => whnf)
  | (rw [tyW_refD]; rotate_left; (focus (walk_at "mu"; done)); with_reducible conv => whnf)
  | (rw [drf_ref]; rotate_left; (focus (walk_at "mu"; done)); with_reducible conv => whnf)
  | ((conv => (arg 2; tactic' => (walk_at "mu"; done))); with_reducible conv => whnf)
  | (with_reducible refine q_and (Eq.refl _) ?_; with_reducible conv => whnf)
  | (with_reducible refine q_and (MulO.r (by decide)) ?_; with_reducible conv => whnf)
  | (with_reducible refine q_and (MulO.l (by decide)) ?_; with_reducible conv => whnf)
  | (with_reducible refine q_and (MulO.r (by omega)) ?_; with_reducible conv => whnf)
  | (with_reducible refine q_and (MulO.l (by omega)) ?_; with_reducible conv => whnf)
  | (with_reducible refine q_pow (by decide) ?_; with_reducible conv => whnf)
  | (with_reducible refine q_nisT (by first | assumption | with_reducible rfl) ?_; with_reducible conv => whnf)
  | (with_reducible refine q_nisF (by first | assumption | with_reducible rfl) ?_; with_reducible conv => whnf)
  | (with_reducible refine q_eqI ?_; with_reducible conv => whnf)
  | (with_reducible refine q_eqS ?_; with_reducible conv => whnf)
  | (with_reducible refine q_eqB ?_; with_reducible conv => whnf)
  | (with_reducible refine q_neI ?_; with_reducible conv => whnf)
  | (with_reducible refine q_neS ?_; with_reducible conv => whnf)
  | (with_reducible refine q_neB ?_; with_reducible conv => whnf)
  | (with_reducible refine q_memc ?_; with_reducible conv => whnf)
  | (with_reducible refine q_lkn (by walk_at "lk") ?_; with_reducible conv => whnf)
  | (with_reducible refine q_tix (by walk_at "lk"; done) ?_; with_reducible conv => whnf)
  | (with_reducible refine q_tin ?_; with_reducible conv => whnf)
  | (rw [pf_hit]; with_reducible conv => whnf)
  | (rw [pf_skip]; rotate_left; (focus (decide +kernel; done)); with_reducible conv => whnf)
  | (rw [lk_hit]; with_reducible conv => whnf)
  | (rw [lk_skip1]; rotate_left; (focus (decide +kernel; done)); with_reducible conv => whnf))))
/-! k48: what the law adds and drops -/
section
open Mspan
/-- the cells below k are done -/
def DoneC (f : Nat → Cell → Cell) (L L' : List Cell) (k : Nat) : Prop := L'.length = 9 ∧ ∀ i, L'[i]? = if i < k then (L[i]?).map (f i) else L[i]?
theorem DoneC.put {f : Nat → Cell → Cell} {L L' : List Cell} {k : Nat} {c : Cell} (h : DoneC f L L' k) (hk : k < 9) (hc : L[k]? = some c) : DoneC f L (L'.set k (f k c)) (k + 1) := by
  refine ⟨by rw [List.length_set]; exact h.1, fun i => ?_⟩
  rw [List.getElem?_set]
  by_cases d : k = i
  · rw [if_pos d, if_pos (by rw [h.1]; exact hk), if_pos (by omega), ← d, hc]
    rfl
  · rw [if_neg d, h.2 i]
    by_cases d2 : i < k
    · rw [if_pos d2, if_pos (by omega)]
    · rw [if_neg d2, if_neg (by omega)]
end
end Q
namespace Q
open PySem L2
local macro_rules | `(tactic| walk_at "mu") => `(tactic| (repeat (first | exact mset_same | assumption | (rw [mset_ne]; rotate_left; (first | assumption | exact Ne.symm (by assumption))))))
local macro_rules | `(tactic| walk_at "lk") => `(tactic| (repeat (first | exact lk_hit | exact lk_nil | refine lk_skip (by decide +kernel) ?_)))
local macro_rules | `(tactic| walk_at "pf") => `(tactic| (repeat (first | rw [pf_nil] | rw [pf_hit] | (rw [pf_skip]; rotate_left; (focus (decide +kernel; done))))))
local macro_rules | `(tactic| walk_at "q") => `(tactic| ((with_reducible conv => whnf); repeat (first
  | (with_reducible refine q_t (by assumption) ?_; with_reducible conv => whnf)
  | (with_reducible refine q_f (by assumption) ?_; with_reducible conv => whnf)
  | (with_reducible refine q_t (by with_reducible rfl) ?_; with_reducible conv => whnf)
  | (with_reducible refine q_f (by with_reducible rfl) ?_; with_reducible conv => whnf)
  | (with_reducible refine q_t (by decide) ?_; with_reducible conv => whnf)
  | (with_reducible refine q_f (by decide) ?_; with_reducible conv => whnf)
  | (with_reducible refine q_t (decide_eq_true (by omega)) ?_; with_reducible conv => whnf)
  | (with_reducible refine q_f (decide_eq_false (by omega)) ?_; with_reducible conv => whnf)
  | (with_reducible refine q_f (q_nn (by omega)) ?_; with_reducible conv => whnf)
  | (with_reducible refine q_t (q_nt (by omega)) ?_; with_reducible conv => whnf)
  | (with_reducible refine q_len (by with_unfolding_all rfl) ?_; with_reducible conv => whnf)
  | (with_reducible refine q_leq (by with_unfolding_all rfl) ?_; with_reducible conv => whnf)
  | (with_reducible refine q_and (by first | assumption | exact True.intro | omega | (simp only [List.length_map, List.length_append, List.length_cons, List.length_nil]; omega) | decide) ?_; with_reducible conv => whnf)
  | (with_reducible refine q_le (by with_unfolding_all rfl) ?_; with_reducible conv => whnf)
  | (with_reducible refine q_and tyL_lst ?_; with_reducible conv => whnf)
  | (with_reducible refine q_and tyL_rol ?_; with_reducible conv => whnf)
  | (with_reducible refine q_and (tyL_ref (by walk_at "mu")) ?_; with_reducible conv => whnf)
  | (with_reducible refine q_and (tyD_ref (by walk_at "mu")) ?_; with_reducible conv => whnf)
  | (with_reducible refine q_and (rdD_ref (by walk_at "mu")) ?_; with_reducible conv => whnf)
  | (rw [pick_c0]; with_reducible conv => whnf)
  | (rw [pick_c1]; with_reducible conv => whnf)
  | (rw [pick_c2]; with_reducible conv => whnf)
  | (rw [pick_c3]; with_reducible conv => whnf)
  | (rw [pick_c4]; with_reducible conv => whnf)
  | (rw [pick_c5]; with_reducible conv => whnf)
  | (rw [mset_same]; with_reducible conv => whnf)
  | (rw [mset_ne (by assumption)]; with_reducible conv => whnf)
  | (rw [mset_ne]; rotate_left; (first | assumption | exact Ne.symm (by assumption)); with_reducible conv => whnf)
  | (rw [rdL_ref]; rotate_left; (focus (walk_at "mu"; done)); with_reducible conv => whnf)
  | (rw [rdL_refD]; rotate_left; (focus (walk_at "mu"; done)); with_reducible conv => whnf)
  | (rw [rdD_refD]; rotate_left; (focus (walk_at "mu"; done)); with_reducible conv => whnf)
  | (rw [rdM_ref]; rotate_left; (focus (walk_at "mu"; done)); with_reducible conv => whnf)
  | (rw [rdL_refK]; rotate_left; (focus (walk_at "mu"; done)); with_reducible conv => whnf)
  | (rw [rdD_refK]; rotate_left; (focus (walk_at "mu"; done)); with_reducible conv => whnf)
  | (rw [tyW_refL]; rotate_left; (focus (walk_at "mu"; done)); with_reducible conv => whnf)
  | (rw [tyW_refD]; rotate_left; (focus (walk_at "mu"; done)); with_reducible conv => whnf)
  | (rw [drf_ref]; rotate_left; (focus (walk_at "mu"; done)); with_reducible conv => whnf)
  | ((conv => (arg 2; tactic' => (walk_at "mu"; done))); with_reducible conv => whnf)
  | (with_reducible refine q_and (Eq.refl _) ?_; with_reducible conv => whnf)
  | (with_reducible refine q_and (MulO.r (by decide)) ?_; with_reducible conv => whnf)
  | (with_reducible refine q_and (MulO.l (by decide)) ?_; with_reducible conv => whnf)
  | (with_reducible refine q_and (MulO.r (by omega)) ?_; with_reducible conv => whnf)
  | (with_reducible refine q_and (MulO.l (by omega)) ?_; with_reducible conv => whnf)
  | (with_reducible refine q_pow (by decide) ?_; with_reducible conv => whnf)
  | (with_reducible refine q_nisT (by first | assumption | with_reducible rfl) ?_; with_reducible conv => whnf)
  | (with_reducible refine q_nisF (by first | assumption | with_reducible rfl) ?_; with_reducible conv => whnf)
  | (with_reducible refine q_eqI ?_; with_reducible conv => whnf)
  | (with_reducible refine q_eqS ?_; with_reducible conv => whnf)
  | (with_reducible refine q_eqB ?_; with_reducible conv => whnf)
  | (with_reducible refine q_neI ?_; with_reducible conv => whnf)
  | (with_reducible refine q_neS ?_; with_reducible conv => whnf)
  | (with_reducible refine q_neB ?_; with_reducible conv => whnf)
  | (with_reducible refine q_memc ?_; with_reducible conv => whnf)
  | (with_reducible refine q_lkn (by walk_at "lk") ?_; with_reducible conv => whnf)
  | (with_reducible refine q_tix (by walk_at "lk"; done) ?_; with_reducible conv => whnf)
  | (with_reducible refine q_tin ?_; with_reducible conv => whnf)
  | (rw [pf_hit]; with_reducible conv => whnf)
  | (rw [pf_skip]; rotate_left; (focus (decide +kernel; done)); with_reducible conv => whnf)
  | (rw [lk_hit]; with_reducible conv => whnf)
  | (rw [lk_skip1]; rotate_left; (focus (decide +kernel; done)); with_reducible conv => whnf))))
/-! k48: what the law asks of the pieces -/
end Q
namespace Q
open PySem L2
local macro_rules | `(tactic| walk_at "mu") => `(tactic| (repeat (first | exact mset_same | assumption | (rw [mset_ne]; rotate_left; (first | assumption | exact Ne.symm (by assumption))))))
local macro_rules | `(tactic| walk_at "lk") => `(tactic| (repeat (first | exact lk_hit | exact lk_nil | refine lk_skip (by decide +kernel) ?_)))
local macro_rules | `(tactic| walk_at "pf") => `(tactic| (repeat (first | rw [pf_nil] | rw [pf_hit] | (rw [pf_skip]; rotate_left; (focus (decide +kernel; done))))))
local macro_rules | `(tactic| walk_at "q") => `(tactic| ((with_reducible conv => whnf); repeat (first
  | (with_reducible refine q_t (by assumption) ?_; with_reducible conv => whnf)
  | (with_reducible refine q_f (by assumption) ?_; with_reducible conv => whnf)
  | (with_reducible refine q_t (by with_reducible rfl) ?_; with_reducible conv => whnf)
  | (with_reducible refine q_f (by with_reducible rfl) ?_; with_reducible conv => whnf)
  | (with_reducible refine q_t (by decide) ?_; with_reducible conv => whnf)
  | (with_reducible refine q_f (by decide) ?_; with_reducible conv => whnf)
  | (with_reducible refine q_t (decide_eq_true (by omega)) ?_; with_reducible conv => whnf)
  | (with_reducible refine q_f (decide_eq_false (by omega)) ?_; with_reducible conv => whnf)
  | (with_reducible refine q_f (q_nn (by omega)) ?_; with_reducible conv => whnf)
  | (with_reducible refine q_t (q_nt (by omega)) ?_; with_reducible conv => whnf)
  | (with_reducible refine q_len (by with_unfolding_all rfl) ?_; with_reducible conv => whnf)
  | (with_reducible refine q_leq (by with_unfolding_all rfl) ?_; with_reducible conv => whnf)
  | (with_reducible refine q_and (by first | assumption | exact True.intro | omega | (simp only [List.length_map, List.length_append, List.length_cons, List.length_nil]; omega) | decide) ?_; with_reducible conv => whnf)
  | (with_reducible refine q_le (by with_unfolding_all rfl) ?_; with_reducible conv => whnf)
  | (with_reducible refine q_and tyL_lst ?_; with_reducible conv => whnf)
  | (with_reducible refine q_and tyL_rol ?_; with_reducible conv => whnf)
  | (with_reducible refine q_and (tyL_ref (by walk_at "mu")) ?_; with_reducible conv => whnf)
  | (with_reducible refine q_and (tyD_ref (by walk_at "mu")) ?_; with_reducible conv => whnf)
  | (with_reducible refine q_and (rdD_ref (by walk_at "mu")) ?_; with_reducible conv => whnf)
  | (rw [pick_c0]; with_reducible conv => whnf)
  | (rw [pick_c1]; with_reducible conv => whnf)
  | (rw [pick_c2]; with_reducible conv => whnf)
  | (rw [pick_c3]; with_reducible conv => whnf)
  | (rw [pick_c4]; with_reducible conv => whnf)
  | (rw [pick_c5]; with_reducible conv => whnf)
  | (rw [mset_same]; with_reducible conv => whnf)
  | (rw [mset_ne (by assumption)]; with_reducible conv => whnf)
  | (rw [mset_ne]; rotate_left; (first | assumption | exact Ne.symm (by assumption)); with_reducible conv => whnf)
  | (rw [rdL_ref]; rotate_left; (focus (walk_at "mu"; done)); with_reducible conv => whnf)
  | (rw [rdL_refD]; rotate_left; (focus (walk_at "mu"; done)); with_reducible conv => whnf)
  | (rw [rdD_refD]; rotate_left; (focus (walk_at "mu"; done)); with_reducible conv => whnf)
  | (rw [rdM_ref]; rotate_left; (focus (walk_at "mu"; done)); with_reducible conv => whnf)
  | (rw [rdL_refK]; rotate_left; (focus (walk_at "mu"; done)); with_reducible conv => whnf)
  | (rw [rdD_refK]; rotate_left; (focus (walk_at "mu"; done)); with_reducible conv => whnf)
  | (rw [tyW_refL]; rotate_left; (focus (walk_at "mu"; done)); with_reducible conv => whnf)
  | (rw [tyW_refD]; rotate_left; (focus (walk_at "mu"; done)); with_reducible conv => whnf)
  | (rw [drf_ref]; rotate_left; (focus (walk_at "mu"; done)); with_reducible conv => whnf)
  | ((conv => (arg 2; tactic' => (walk_at "mu"; done))); with_reducible conv => whnf)
  | (with_reducible refine q_and (Eq.refl _) ?_; with_reducible conv => whnf)
  | (with_reducible refine q_and (MulO.r (by decide)) ?_; with_reducible conv => whnf)
  | (with_reducible refine q_and (MulO.l (by decide)) ?_; with_reducible conv => whnf)
  | (with_reducible refine q_and (MulO.r (by omega)) ?_; with_reducible conv => whnf)
  | (with_reducible refine q_and (MulO.l (by omega)) ?_; with_reducible conv => whnf)
  | (with_reducible refine q_pow (by decide) ?_; with_reducible conv => whnf)
  | (with_reducible refine q_nisT (by first | assumption | with_reducible rfl) ?_; with_reducible conv => whnf)
  | (with_reducible refine q_nisF (by first | assumption | with_reducible rfl) ?_; with_reducible conv => whnf)
  | (with_reducible refine q_eqI ?_; with_reducible conv => whnf)
  | (with_reducible refine q_eqS ?_; with_reducible conv => whnf)
  | (with_reducible refine q_eqB ?_; with_reducible conv => whnf)
  | (with_reducible refine q_neI ?_; with_reducible conv => whnf)
  | (with_reducible refine q_neS ?_; with_reducible conv => whnf)
  | (with_reducible refine q_neB ?_; with_reducible conv => whnf)
  | (with_reducible refine q_memc ?_; with_reducible conv => whnf)
  | (with_reducible refine q_lkn (by walk_at "lk") ?_; with_reducible conv => whnf)
  | (with_reducible refine q_tix (by walk_at "lk"; done) ?_; with_reducible conv => whnf)
  | (with_reducible refine q_tin ?_; with_reducible conv => whnf)
  | (rw [pf_hit]; with_reducible conv => whnf)
  | (rw [pf_skip]; rotate_left; (focus (decide +kernel; done)); with_reducible conv => whnf)
  | (rw [lk_hit]; with_reducible conv => whnf)
  | (rw [lk_skip1]; rotate_left; (focus (decide +kernel; done)); with_reducible conv => whnf))))
/-! plan: the program's side (k51) -/
end Q
namespace Q
open PySem L2
local macro_rules | `(tactic| walk_at "mu") => `(tactic| (repeat (first | exact mset_same | assumption | (rw [mset_ne]; rotate_left; (first | assumption | exact Ne.symm (by assumption))))))
local macro_rules | `(tactic| walk_at "lk") => `(tactic| (repeat (first | exact lk_hit | exact lk_nil | refine lk_skip (by decide +kernel) ?_)))
local macro_rules | `(tactic| walk_at "pf") => `(tactic| (repeat (first | rw [pf_nil] | rw [pf_hit] | (rw [pf_skip]; rotate_left; (focus (decide +kernel; done))))))
local macro_rules | `(tactic| walk_at "q") => `(tactic| ((with_reducible conv => whnf); repeat (first
  | (with_reducible refine q_t (by assumption) ?_; with_reducible conv => whnf)
  | (with_reducible refine q_f (by assumption) ?_; with_reducible conv => whnf)
  | (with_reducible refine q_t (by with_reducible rfl) ?_; with_reducible conv => whnf)
  | (with_reducible refine q_f (by with_reducible rfl) ?_; with_reducible conv => whnf)
  | (with_reducible refine q_t (by decide) ?_; with_reducible conv => whnf)
  | (with_reducible refine q_f (by decide) ?_; with_reducible conv => whnf)
  | (with_reducible refine q_t (decide_eq_true (by omega)) ?_; with_reducible conv => whnf)
  | (with_reducible refine q_f (decide_eq_false (by omega)) ?_; with_reducible conv => whnf)
  | (with_reducible refine q_f (q_nn (by omega)) ?_; with_reducible conv => whnf)
  | (with_reducible refine q_t (q_nt (by omega)) ?_; with_reducible conv => whnf)
  | (with_reducible refine q_len (by with_unfolding_all rfl) ?_; with_reducible conv => whnf)
  | (with_reducible refine q_leq (by with_unfolding_all rfl) ?_; with_reducible conv => whnf)
  | (with_reducible refine q_and (by first | assumption | exact True.intro | omega | (simp only [List.length_map, List.length_append, List.length_cons, List.length_nil]; omega) | decide) ?_; with_reducible conv => whnf)
  | (with_reducible refine q_le (by with_unfolding_all rfl) ?_; with_reducible conv => whnf)
  | (with_reducible refine q_and tyL_lst ?_; with_reducible conv => whnf)
  | (with_reducible refine q_and tyL_rol ?_; with_reducible conv => whnf)
  | (with_reducible refine q_and (tyL_ref (by walk_at "mu")) ?_; with_reducible conv => whnf)
  | (with_reducible refine q_and (tyD_ref (by walk_at "mu")) ?_; with_reducible conv => whnf)
  | (with_reducible refine q_and (rdD_ref (by walk_at "mu")) ?_; with_reducible conv => whnf)
  | (rw [pick_c0]; with_reducible conv => whnf)
  | (rw [pick_c1]; with_reducible conv => whnf)
  | (rw [pick_c2]; with_reducible conv => whnf)
  | (rw [pick_c3]; with_reducible conv => whnf)
  | (rw [pick_c4]; with_reducible conv => whnf)
  | (rw [pick_c5]; with_reducible conv => whnf)
  | (rw [mset_same]; with_reducible conv => whnf)
  | (rw [mset_ne (by assumption)]; with_reducible conv => whnf)
  | (rw [mset_ne]; rotate_left; (first | assumption | exact Ne.symm (by assumption)); with_reducible conv => whnf)
  | (rw [rdL_ref]; rotate_left; (focus (walk_at "mu"; done)); with_reducible conv => whnf)
  | (rw [rdL_refD]; rotate_left; (focus (walk_at "mu"; done)); with_reducible conv => whnf)
  | (rw [rdD_refD]; rotate_left; (focus (walk_at "mu"; done)); with_reducible conv => whnf)
  | (rw [rdM_ref]; rotate_left; (focus (walk_at "mu"; done)); with_reducible conv => whnf)
  | (rw [rdL_refK]; rotate_left; (focus (walk_at "mu"; done)); with_reducible conv => whnf)
  | (rw [rdD_refK]; rotate_left; (focus (walk_at "mu"; done)); with_reducible conv => whnf)
  | (rw [tyW_refL]; rotate_left; (focus (walk_at "mu"; done)); with_reducible conv => whnf)
  | (rw [tyW_refD]; rotate_left; (focus (walk_at "mu"; done)); with_reducible conv => whnf)
  | (rw [drf_ref]; rotate_left; (focus (walk_at "mu"; done)); with_reducible conv => whnf)
  | ((conv => (arg 2; tactic' => (walk_at "mu"; done))); with_reducible conv => whnf)
  | (with_reducible refine q_and (Eq.refl _) ?_; with_reducible conv => whnf)
  | (with_reducible refine q_and (MulO.r (by decide)) ?_; with_reducible conv => whnf)
  | (with_reducible refine q_and (MulO.l (by decide)) ?_; with_reducible conv => whnf)
  | (with_reducible refine q_and (MulO.r (by omega)) ?_; with_reducible conv => whnf)
  | (with_reducible refine q_and (MulO.l (by omega)) ?_; with_reducible conv => whnf)
  | (with_reducible refine q_pow (by decide) ?_; with_reducible conv => whnf)
  | (with_reducible refine q_nisT (by first | assumption | with_reducible rfl) ?_; with_reducible conv => whnf)
  | (with_reducible refine q_nisF (by first | assumption | with_reducible rfl) ?_; with_reducible conv => whnf)
  | (with_reducible refine q_eqI ?_; with_reducible conv => whnf)
  | (with_reducible refine q_eqS ?_; with_reducible conv => whnf)
  | (with_reducible refine q_eqB ?_; with_reducible conv => whnf)
  | (with_reducible refine q_neI ?_; with_reducible conv => whnf)
  | (with_reducible refine q_neS ?_; with_reducible conv => whnf)
  | (with_reducible refine q_neB ?_; with_reducible conv => whnf)
  | (with_reducible refine q_memc ?_; with_reducible conv => whnf)
  | (with_reducible refine q_lkn (by walk_at "lk") ?_; with_reducible conv => whnf)
  | (with_reducible refine q_tix (by walk_at "lk"; done) ?_; with_reducible conv => whnf)
  | (with_reducible refine q_tin ?_; with_reducible conv => whnf)
  | (rw [pf_hit]; with_reducible conv => whnf)
  | (rw [pf_skip]; rotate_left; (focus (decide +kernel; done)); with_reducible conv => whnf)
  | (rw [lk_hit]; with_reducible conv => whnf)
  | (rw [lk_skip1]; rotate_left; (focus (decide +kernel; done)); with_reducible conv => whnf))))
/-! letters: what they are, of any plain values -/
theorem pb {b c : Bool} {μ : Mu} {P : Po} (h : P (.bl b) μ) (e : b = c) : P (.bl c) μ := e ▸ h
theorem itS_ws {std : Mu → Prop} {g : FG} {b : FS} {N : En} (I : List W → List W → Rho → Mu → Prop) (ws : List W) {ρ : Rho} {μ : Mu} (h0 : I [] ws ρ μ)
    (hs : ∀ done x r ρ μ, I done (x :: r) ρ μ → std μ ∧ ∀ K : Rho → Mu → Prop, (∀ ρ' μ', I (done ++ [x]) r ρ' μ' → K ρ' μ') → g x ρ μ fun ρ1 μ1 => b ρ1 μ1 { nx := K, ct := K, bk := N.nx, rt := N.rt, ex := N.ex })
    (hd : ∀ done ρ μ, I done [] ρ μ → std μ ∧ N.nx ρ μ) : itS std g b ws ρ μ N := by
  have := itS_of (std := std) (g := g) (b := b) (N := N) id I ws [] h0 hs hd
  rwa [List.map_id] at this
mutual
/-- plain through and through -/
def dp : W → Bool
  | .non => true
  | .bl _ => true
  | .int _ => true
  | .str z => decide (z.length ≤ 16000000)
  | .tup ws => dps ws
  | .lst ws => dps ws
  | _ => false
def dps : List W → Bool
  | [] => true
  | w :: ws => dp w && dps ws
end
theorem dp_pl {w : W} (h : dp w = true) : pl w = true := by
  cases w with
  | str z => 
    have h : decide (z.length ≤ 16000000) = true := by unfold dp at h; exact h
    exact h
  | non => rfl
  | bl b => rfl
  | int i => rfl
  | tup ws => rfl
  | lst ws => rfl
  | _ => unfold dp at h; cases h
theorem dp_tup {ws : List W} (h : dp (.tup ws) = true) : dps ws = true := by unfold dp at h; exact h
theorem dps_cons {w : W} {ws : List W} (h : dps (w :: ws) = true) : dp w = true ∧ dps ws = true := by unfold dps at h; exact Bool.and_eq_true_iff.mp h
theorem dps_mem : ∀ {ws : List W}, dps ws = true → ∀ w ∈ ws, dp w = true
  | [], _, w, hw => by cases hw
  | x :: ws, h, w, hw => by
    obtain ⟨h1, h2⟩ := dps_cons h
    rcases List.mem_cons.mp hw with rfl | hw
    · exact h1
    · exact dps_mem h2 w hw
theorem dps_of : ∀ {ws : List W}, (∀ w ∈ ws, dp w = true) → dps ws = true
  | [], _ => by unfold dps; rfl
  | x :: ws, h => by
    unfold dps
    rw [h x List.mem_cons_self, dps_of fun w hw => h w (List.mem_cons_of_mem _ hw)]
    rfl
theorem dps_pl {ws : List W} (h : dps ws = true) : ∀ w ∈ ws, pl w = true := fun w hw => dp_pl (dps_mem h w hw)
theorem dp_str {z : Str} (h : dp (.str z) = true) : z.length ≤ 16000000 := by unfold dp at h; exact of_decide_eq_true h
/-- the kind -/
def kindW : W → Str
  | .tup (.str k :: _) => k
  | _ => ""
theorem sp_kind {w : W} {μ : Mu} {P : Po} {X : Xo} (hp : dp w = true) (h : P (.str (kindW w)) μ) : f_kind_of [w] μ P X := by
  rw [f_kind_of_eq]; unfold f_kind_of_B fDef
  refine ⟨rfl, ?_⟩
  cases w with
  | tup ws =>
    cases ws with
    | nil =>
      walk_at "q"
      exact Rt.now h
    | cons a r =>
      have ha := (dps_cons (dp_tup hp)).1
      have hl : decide ((0 : Int) < ((a :: r).length : Int)) = true := decide_eq_true (by rw [List.length_cons]; omega)
      cases a with
      | str k =>
        walk_at "q"
        exact Rt.now h
      | non =>
        walk_at "q"
        exact Rt.now h
      | bl b =>
        walk_at "q"
        exact Rt.now h
      | int i =>
        walk_at "q"
        exact Rt.now h
      | tup us =>
        walk_at "q"
        exact Rt.now h
      | lst us =>
        walk_at "q"
        exact Rt.now h
      | _ => unfold dp at ha; cases ha
  | non =>
    walk_at "q"
    exact Rt.now h
  | bl b =>
    walk_at "q"
    exact Rt.now h
  | int i =>
    walk_at "q"
    exact Rt.now h
  | str z =>
    walk_at "q"
    exact Rt.now h
  | lst us =>
    walk_at "q"
    exact Rt.now h
  | _ => unfold dp at hp; cases hp
/-- operations of any plain value -/
def opW : W → Bool
  | .tup ws => opB ws
  | _ => false
theorem sp_opK {w : W} {μ : Mu} {P : Po} {X : Xo} (hp : dp w = true) (hk : kindW w = "") (h : P (.bl false) μ) : f_is_operation [w] μ P X := by
  rw [f_is_operation_eq]; unfold f_is_operation_B fDef
  refine ⟨rfl, ?_⟩
  walk_at "q"
  refine sp_kind hp ?_
  rw [hk]
  walk_at "q"
  exact Rt.now h
theorem opB_no {w : W} {r : List W} (h : ∀ k, w ≠ .str k) : opB (w :: r) = false := by
  cases w with
  | str k => exact absurd rfl (h k)
  | _ => rfl
theorem sp_op {w : W} {μ : Mu} {P : Po} {X : Xo} (hp : dp w = true) (h : P (.bl (opW w)) μ) : f_is_operation [w] μ P X := by
  cases w with
  | tup ws =>
    have hs := dp_tup hp
    cases ws with
    | nil => exact sp_opK hp rfl h
    | cons a r =>
      obtain ⟨ha, hr⟩ := dps_cons hs
      cases a with
      | str k => exact sp_is_op (dps_pl hr) (dp_str ha) h
      | _ => first
        | exact sp_opK hp rfl (by rw [show opW (.tup (_ :: r)) = false from opB_no (by intro k; simp)] at h; exact h)
        | (unfold dp at ha; cases ha)
  | non => exact sp_opK hp rfl h
  | bl b => exact sp_opK hp rfl h
  | int i => exact sp_opK hp rfl h
  | str z => exact sp_opK hp rfl h
  | lst us => exact sp_opK hp rfl h
  | _ => unfold dp at hp; cases hp
/-- pairs -/
def pairB : W → Bool
  | .tup [a, b] => keyW a && valB b
  | _ => false
theorem sp__is_pair {w : W} {μ : Mu} {P : Po} {X : Xo} (hp : dp w = true) (h : P (.bl (pairB w)) μ) : f__is_pair [w] μ P X := by
  rw [f__is_pair_eq]; unfold f__is_pair_B fDef
  refine ⟨rfl, ?_⟩
  cases w with
  | tup ws =>
    have hs := dps_pl (dp_tup hp)
    match ws, hs, h with
    | [], hs, h =>
      walk_at "q"
      exact Rt.now h
    | [a], hs, h =>
      walk_at "q"
      refine q_f rfl ?_
      exact Rt.now h
    | [a, b], hs, h =>
      have h : P (.bl (keyW a && valB b)) μ := h
      walk_at "q"
      refine q_t rfl ?_
      walk_at "q"
      refine sp_key (hs a (by simp)) ?_
      refine q_if (fun c => ?_) fun c => ?_
      · walk_at "q"
        refine sp_val (hs b (by simp)) ?_
        exact Rt.now (pb h (by simp [c]))
      · exact Rt.now (pb h (by simp [c]))
    | a :: b :: d :: r, hs, h =>
      walk_at "q"
      refine q_f (decide_eq_false (by simp only [List.length_cons]; omega)) ?_
      exact Rt.now h
  | non =>
    walk_at "q"
    exact Rt.now h
  | bl b =>
    walk_at "q"
    exact Rt.now h
  | int i =>
    walk_at "q"
    exact Rt.now h
  | str z =>
    walk_at "q"
    exact Rt.now h
  | lst us =>
    walk_at "q"
    exact Rt.now h
  | _ => unfold dp at hp; cases hp
/-- keys rise -/
def risB : Str → List W → Bool
  | _, [] => true
  | z, .tup [.str k, v] :: r => (isKeyB k && valB v) && (sLt z k && risB k r)
  | _, _ => false
def pairsB : W → Bool
  | .tup ws => risB "" ws
  | _ => false
theorem pairB_some {w : W} (h : pairB w = true) : ∃ k v, w = .tup [.str k, v] ∧ isKeyB k = true ∧ valB v = true := by
  unfold pairB at h
  split at h
  · rename_i a b
    obtain ⟨h1, h2⟩ := Bool.and_eq_true_iff.mp h
    cases a with
    | str k => exact ⟨k, b, rfl, h1, h2⟩
    | _ => cases h1
  · cases h
theorem risB_no {z : Str} {w : W} {r : List W} (h : pairB w = false) : risB z (w :: r) = false := by
  unfold risB
  split
  · rename_i e
    cases e
  · rename_i k v r' e
    cases e
    have h : (isKeyB k && valB v) = false := h
    rw [h]
    rfl
  · rfl
theorem sp_are_pairs {w : W} {μ : Mu} {P : Po} {X : Xo} (hp : dp w = true) (h : P (.bl (pairsB w)) μ) : f_are_pairs [w] μ P X := by
  rw [f_are_pairs_eq]; unfold f_are_pairs_B fDef
  refine ⟨rfl, ?_⟩
  cases w with
  | tup ws =>
    have hs := dp_tup hp
    walk_at "q"
    refine itS_ws (fun done rest ρ μ' => μ' = μ ∧ dps rest = true ∧ ∃ (z : Str) (x2 : Option W), ρ = [some (.tup ws), some (.str z), x2] ∧ risB "" ws = risB z rest) ws ⟨rfl, hs, "", none, rfl, rfl⟩ ?_ ?_
    · rintro done a rest ρ μ' ⟨rfl, hd, z, x2, rfl, e⟩
      obtain ⟨ha, hr⟩ := dps_cons hd
      refine ⟨trivial, fun K hK => ?_⟩
      walk_at "q"
      refine sp__is_pair ha ?_
      cases c : pairB a with
      | false =>
        rw [risB_no c] at e
        walk_at "q"
        exact Rt.now (pb h e)
      | true =>
        obtain ⟨k, v, rfl, k1, k2⟩ := pairB_some c
        have e2 : risB z (.tup [.str k, v] :: rest) = ((isKeyB k && valB v) && (sLt z k && risB k rest)) := rfl
        rw [k1, k2, Bool.true_and, Bool.true_and] at e2
        walk_at "q"
        cases c2 : sLt z k with
        | true =>
          rw [c2, Bool.true_and] at e2
          walk_at "q"
          exact hK _ _ ⟨rfl, hr, k, _, rfl, by rw [e, e2]⟩
        | false =>
          rw [c2, Bool.false_and] at e2
          walk_at "q"
          exact Rt.now (pb h (by rw [show pairsB (.tup ws) = risB "" ws from rfl, e, e2]))
    · rintro done ρ μ' ⟨rfl, hd, z, x2, rfl, e⟩
      refine ⟨trivial, ?_⟩
      walk_at "q"
      exact Rt.now (pb h e)
  | non =>
    walk_at "q"
    exact Rt.now h
  | bl b =>
    walk_at "q"
    exact Rt.now h
  | int i =>
    walk_at "q"
    exact Rt.now h
  | str z =>
    walk_at "q"
    exact Rt.now h
  | lst us =>
    walk_at "q"
    exact Rt.now h
  | _ => unfold dp at hp; cases hp
end Q
namespace Q
open PySem L2
local macro_rules | `(tactic| walk_at "mu") => `(tactic| (repeat (first | exact mset_same | assumption | (rw [mset_ne]; rotate_left; (first | assumption | exact Ne.symm (by assumption))))))
local macro_rules | `(tactic| walk_at "lk") => `(tactic| (repeat (first | exact lk_hit | exact lk_nil | refine lk_skip (by decide +kernel) ?_)))
local macro_rules | `(tactic| walk_at "pf") => `(tactic| (repeat (first | rw [pf_nil] | rw [pf_hit] | (rw [pf_skip]; rotate_left; (focus (decide +kernel; done))))))
local macro_rules | `(tactic| walk_at "q") => `(tactic| ((with_reducible conv => whnf); repeat (first
  | (with_reducible refine q_t (by assumption) ?_; with_reducible conv => whnf)
  | (with_reducible refine q_f (by assumption) ?_; with_reducible conv => whnf)
  | (with_reducible refine q_t (by with_reducible rfl) ?_; with_reducible conv => whnf)
  | (with_reducible refine q_f (by with_reducible rfl) ?_; with_reducible conv => whnf)
  | (with_reducible refine q_t (by decide) ?_; with_reducible conv => whnf)
  | (with_reducible refine q_f (by decide) ?_; with_reducible conv => whnf)
  | (with_reducible refine q_t (decide_eq_true (by omega)) ?_; with_reducible conv => whnf)
  | (with_reducible refine q_f (decide_eq_false (by omega)) ?_; with_reducible conv => whnf)
  | (with_reducible refine q_f (q_nn (by omega)) ?_; with_reducible conv => whnf)
  | (with_reducible refine q_t (q_nt (by omega)) ?_; with_reducible conv => whnf)
  | (with_reducible refine q_len (by with_unfolding_all rfl) ?_; with_reducible conv => whnf)
  | (with_reducible refine q_leq (by with_unfolding_all rfl) ?_; with_reducible conv => whnf)
  | (with_reducible refine q_and (by first | assumption | exact True.intro | omega | (simp only [List.length_map, List.length_append, List.length_cons, List.length_nil]; omega) | decide) ?_; with_reducible conv => whnf)
  | (with_reducible refine q_le (by with_unfolding_all rfl) ?_; with_reducible conv => whnf)
  | (with_reducible refine q_and tyL_lst ?_; with_reducible conv => whnf)
  | (with_reducible refine q_and tyL_rol ?_; with_reducible conv => whnf)
  | (with_reducible refine q_and (tyL_ref (by walk_at "mu")) ?_; with_reducible conv => whnf)
  | (with_reducible refine q_and (tyD_ref (by walk_at "mu")) ?_; with_reducible conv => whnf)
  | (with_reducible refine q_and (rdD_ref (by walk_at "mu")) ?_; with_reducible conv => whnf)
  | (rw [pick_c0]; with_reducible conv => whnf)
  | (rw [pick_c1]; with_reducible conv => whnf)
  | (rw [pick_c2]; with_reducible conv => whnf)
  | (rw [pick_c3]; with_reducible conv => whnf)
  | (rw [pick_c4]; with_reducible conv => whnf)
  | (rw [pick_c5]; with_reducible conv => whnf)
  | (rw [mset_same]; with_reducible conv => whnf)
  | (rw [mset_ne (by assumption)]; with_reducible conv => whnf)
  | (rw [mset_ne]; rotate_left; (first | assumption | exact Ne.symm (by assumption)); with_reducible conv => whnf)
  | (rw [rdL_ref]; rotate_left; (focus (walk_at "mu"; done)); with_reducible conv => whnf)
  | (rw [rdL_refD]; rotate_left; (focus (walk_at "mu"; done)); with_reducible conv => whnf)
  | (rw [rdD_refD]; rotate_left; (focus (walk_at "mu"; done)); with_reducible conv => whnf)
  | (rw [rdM_ref]; rotate_left; (focus (walk_at "mu"; done)); with_reducible conv => whnf)
  | (rw [rdL_refK]; rotate_left; (focus (walk_at "mu"; done)); with_reducible conv => whnf)
  | (rw [rdD_refK]; rotate_left; (focus (walk_at "mu"; done)); with_reducible conv => whnf)
  | (rw [tyW_refL]; rotate_left; (focus (walk_at "mu"; done)); with_reducible conv => whnf)
  | (rw [tyW_refD]; rotate_left; (focus (walk_at "mu"; done)); with_reducible conv => whnf)
  | (rw [drf_ref]; rotate_left; (focus (walk_at "mu"; done)); with_reducible conv => whnf)
  | ((conv => (arg 2; tactic' => (walk_at "mu"; done))); with_reducible conv => whnf)
  | (with_reducible refine q_and (Eq.refl _) ?_; with_reducible conv => whnf)
  | (with_reducible refine q_and (MulO.r (by decide)) ?_; with_reducible conv => whnf)
  | (with_reducible refine q_and (MulO.l (by decide)) ?_; with_reducible conv => whnf)
  | (with_reducible refine q_and (MulO.r (by omega)) ?_; with_reducible conv => whnf)
  | (with_reducible refine q_and (MulO.l (by omega)) ?_; with_reducible conv => whnf)
  | (with_reducible refine q_pow (by decide) ?_; with_reducible conv => whnf)
  | (with_reducible refine q_nisT (by first | assumption | with_reducible rfl) ?_; with_reducible conv => whnf)
  | (with_reducible refine q_nisF (by first | assumption | with_reducible rfl) ?_; with_reducible conv => whnf)
  | (with_reducible refine q_eqI ?_; with_reducible conv => whnf)
  | (with_reducible refine q_eqS ?_; with_reducible conv => whnf)
  | (with_reducible refine q_eqB ?_; with_reducible conv => whnf)
  | (with_reducible refine q_neI ?_; with_reducible conv => whnf)
  | (with_reducible refine q_neS ?_; with_reducible conv => whnf)
  | (with_reducible refine q_neB ?_; with_reducible conv => whnf)
  | (with_reducible refine q_memc ?_; with_reducible conv => whnf)
  | (with_reducible refine q_lkn (by walk_at "lk") ?_; with_reducible conv => whnf)
  | (with_reducible refine q_tix (by walk_at "lk"; done) ?_; with_reducible conv => whnf)
  | (with_reducible refine q_tin ?_; with_reducible conv => whnf)
  | (rw [pf_hit]; with_reducible conv => whnf)
  | (rw [pf_skip]; rotate_left; (focus (decide +kernel; done)); with_reducible conv => whnf)
  | (rw [lk_hit]; with_reducible conv => whnf)
  | (rw [lk_skip1]; rotate_left; (focus (decide +kernel; done)); with_reducible conv => whnf))))
/-! letters: answers, sessions, ranges -/
def len2 (ws : List W) (f : W → Bool) : Bool := match ws with
  | [_, a] => f a
  | _ => false
theorem sp__is_value_told {ws : List W} {μ : Mu} {P : Po} {X : Xo} (hp : dps ws = true) (h : P (.bl (len2 ws valB)) μ) : f__is_value_told [.tup ws] μ P X := by
  rw [f__is_value_told_eq]; unfold f__is_value_told_B fDef
  refine ⟨rfl, ?_⟩
  have hs := dps_pl hp
  match ws, hs, h with
  | [], hs, h =>
    walk_at "q"
    exact Rt.now h
  | [a], hs, h =>
    walk_at "q"
    refine q_f rfl ?_
    exact Rt.now h
  | [a, b], hs, h =>
    walk_at "q"
    refine q_t rfl ?_
    walk_at "q"
    refine sp_val (hs b (by simp)) ?_
    exact Rt.now h
  | a :: b :: d :: r, hs, h =>
    walk_at "q"
    refine q_f (decide_eq_false (by simp only [List.length_cons]; omega)) ?_
    exact Rt.now h
theorem sp__is_word_alone {ws : List W} {μ : Mu} {P : Po} {X : Xo} (h : P (.bl (decide ((ws.length : Int) = 1))) μ) : f__is_word_alone [.tup ws] μ P X := by
  rw [f__is_word_alone_eq]; unfold f__is_word_alone_B fDef
  refine ⟨rfl, ?_⟩
  walk_at "q"
  exact Rt.now h
def folB (ps f : W) : Bool := pairsB ps && (match ps with
  | .tup ws => decide (ws.length ≤ 50) && ((match f with
    | .non => true
    | .str y => isKeyB y
    | _ => false) && (match ws.getLast? with
      | none => true
      | some (.tup (.str k :: _)) => (match f with
        | .str y => sLt k y
        | _ => true)
      | some _ => false))
  | _ => false)
def pageB (ws : List W) : Bool := match ws with
  | [_, ps, f] => folB ps f
  | _ => false
theorem ris_last : ∀ {z : Str} {ws : List W} {w : W}, risB z (ws ++ [w]) = true → pairB w = true
  | z, [], w, h => by
    cases e : pairB w with
    | true => rfl
    | false =>
      rw [List.nil_append, risB_no e] at h
      cases h
  | z, x :: ws, w, h => by
    cases e : pairB x with
    | false =>
      rw [List.cons_append, risB_no e] at h
      cases h
    | true =>
      obtain ⟨k, v, rfl, _, _⟩ := pairB_some e
      have h : ((isKeyB k && valB v) && (sLt z k && risB k (ws ++ [w]))) = true := h
      exact ris_last (Bool.and_eq_true_iff.mp (Bool.and_eq_true_iff.mp h).2).2
theorem last_cases {α : Type} (xs : List α) : xs = [] ∨ ∃ ys y, xs = ys ++ [y] := by
  rcases List.eq_nil_or_concat xs with h | ⟨ys, y, h⟩
  · exact .inl h
  · exact .inr ⟨ys, y, by simpa using h⟩
theorem pick_lastW (xs : List W) (x : W) : pick (xs ++ [x]) (-1) = some x := by
  have := pick_mlast (enc := id) xs x
  rwa [List.map_id] at this
theorem sp__is_page_told {ws : List W} {μ : Mu} {P : Po} {X : Xo} (hp : dps ws = true) (h : P (.bl (pageB ws)) μ) : f__is_page_told [.tup ws] μ P X := by
  rw [f__is_page_told_eq]; unfold f__is_page_told_B fDef
  refine ⟨rfl, ?_⟩
  have hs := dps_pl hp
  match ws, hs, hp, h with
  | [], hs, hp, h =>
    walk_at "q"
    exact Rt.now h
  | [a], hs, hp, h =>
    walk_at "q"
    refine q_t rfl ?_
    walk_at "q"
    exact Rt.now h
  | [a, b], hs, hp, h =>
    walk_at "q"
    refine q_t rfl ?_
    walk_at "q"
    exact Rt.now h
  | a :: b :: d :: e :: r, hs, hp, h =>
    walk_at "q"
    refine q_t (by simp only [List.length_cons]; rw [decide_eq_false (by omega)]; rfl) ?_
    walk_at "q"
    exact Rt.now h
  | [a, ps, f], hs, hp, h =>
    have hps := (dps_cons (dps_cons hp).2).1
    have h : P (.bl (folB ps f)) μ := h
    walk_at "q"
    refine q_f rfl ?_
    walk_at "q"
    refine sp_are_pairs hps ?_
    unfold folB at h
    cases c : pairsB ps with
    | false =>
      rw [c, Bool.false_and] at h
      walk_at "q"
      exact Rt.now h
    | true =>
      rw [c, Bool.true_and] at h
      cases ps with
      | tup us =>
        simp only at h
        walk_at "q"
        by_cases c2 : us.length ≤ 50
        · rw [decide_eq_true c2, Bool.true_and] at h
          refine q_f (decide_eq_false (by omega)) ?_
          walk_at "q"
          have hf := hs f (by simp)
          have no : keyW f = false → f ≠ .non → Rt P (.bl false) μ := fun k1 k2 => Rt.now (pb h (by
            cases f with
            | non => exact absurd rfl k2
            | str y =>
              show (isKeyB y && _) = false
              rw [show isKeyB y = false from k1]
              rfl
            | _ => rfl))
          have main : ∀ (g : W), f = g → (g = .non ∨ ∃ y, g = .str y ∧ isKeyB y = true) → (match us.getLast? with
              | none => Rt P (.bl true) μ
              | some (.tup (.str k :: _)) => (match g with
                | .str y => Rt P (.bl (sLt k y)) μ
                | _ => Rt P (.bl true) μ)
              | some _ => True) := fun g e hg => by
            subst e
            rcases last_cases us with rfl | ⟨ys, y, rfl⟩
            · rcases hg with rfl | ⟨y, rfl, ky⟩
              · exact Rt.now h
              · simp only at h
                rw [ky] at h
                exact Rt.now h
            · rw [List.getLast?_concat] at h ⊢
              obtain ⟨k, v, rfl, _, _⟩ := pairB_some (ris_last c)
              rcases hg with rfl | ⟨y, rfl, ky⟩
              · exact Rt.now h
              · simp only at h
                rw [ky, Bool.true_and] at h
                exact Rt.now h
          have tail : ∀ (g : W), f = g → (g = .non ∨ ∃ y, g = .str y ∧ isKeyB y = true) → ∀ N : En, (N.rt = fun w μ1 => Rt P w μ1) → (sRt (eOr (eOp wEqu (eB bLen (aCons (eV 2) (aNil))) (eC (.int 0))) (eCall f_below (aCons (eOp wIx (eOp wIx (eV 2) (eUn wNeg (eC (.int 1)))) (eC (.int 0))) (aCons (eV 3) (aNil)))))) [some (.tup [a, .tup us, f]), some a, some (.tup us), some g] μ N := fun g e hg N hN => by
            have m := main g e hg
            rcases last_cases us with rfl | ⟨ys, y, rfl⟩
            · walk_at "q"
              show N.rt _ _
              rw [hN]
              exact m
            · rw [List.getLast?_concat] at m
              obtain ⟨k, v, rfl, _, _⟩ := pairB_some (ris_last c)
              have hl : decide ((((ys ++ [W.tup [.str k, v]]).length : Nat) : Int) = 0) = false := decide_eq_false (by rw [List.length_append, List.length_singleton]; omega)
              walk_at "q"
              rw [pick_lastW]
              walk_at "q"
              rcases hg with rfl | ⟨y, rfl, ky⟩
              · refine sp_below (y := none) ?_
                show N.rt _ _
                rw [hN]
                exact m
              · refine sp_below (y := some y) ?_
                show N.rt _ _
                rw [hN]
                exact m
          cases f with
          | non =>
            walk_at "q"
            exact tail .non rfl (.inl rfl) _ rfl
          | str y =>
            walk_at "q"
            refine sp_key hf ?_
            cases c3 : keyW (.str y) with
            | false =>
              walk_at "q"
              exact no c3 (by simp)
            | true =>
              walk_at "q"
              exact tail (.str y) rfl (.inr ⟨y, rfl, c3⟩) _ rfl
          | bl b =>
            walk_at "q"
            refine sp_key hf ?_
            walk_at "q"
            exact no rfl (by simp)
          | int b =>
            walk_at "q"
            refine sp_key hf ?_
            walk_at "q"
            exact no rfl (by simp)
          | tup b =>
            walk_at "q"
            refine sp_key hf ?_
            walk_at "q"
            exact no rfl (by simp)
          | lst b =>
            walk_at "q"
            refine sp_key hf ?_
            walk_at "q"
            exact no rfl (by simp)
          | _ => cases hf
        · rw [decide_eq_false c2, Bool.false_and] at h
          refine q_t (decide_eq_true (by omega)) ?_
          walk_at "q"
          exact Rt.now h
      | _ => cases c
/-- answers -/
def ansB : List W → Bool
  | .str k :: r => if k = "value" ∨ k = "other" then len2 (.str k :: r) valB else if k = "none" ∨ k = "done" then decide (r = []) else if k = "page" then pageB (.str k :: r) else false
  | _ => false
def ansW : W → Bool
  | .tup ws => ansB ws
  | _ => false
theorem sp_ansK {w : W} {μ : Mu} {P : Po} {X : Xo} (hp : dp w = true) (hk : kindW w = "") (h : P (.bl false) μ) : f_is_answer [w] μ P X := by
  rw [f_is_answer_eq]; unfold f_is_answer_B fDef
  refine ⟨rfl, ?_⟩
  walk_at "q"
  refine sp_kind hp ?_
  rw [hk]
  walk_at "q"
  exact Rt.now h
theorem sp_ansS {k : Str} {r : List W} {μ : Mu} {P : Po} {X : Xo} (hp : dps (.str k :: r) = true) (h : P (.bl (ansB (.str k :: r))) μ) : f_is_answer [.tup (.str k :: r)] μ P X := by
  rw [f_is_answer_eq]; unfold f_is_answer_B fDef
  refine ⟨rfl, ?_⟩
  walk_at "q"
  refine sp_kind_tup ?_
  walk_at "q"
  have h : P (.bl (if k = "value" ∨ k = "other" then len2 (.str k :: r) valB else if k = "none" ∨ k = "done" then decide (r = []) else if k = "page" then pageB (.str k :: r) else false)) μ := h
  by_cases hm : k ∈ (["value", "none", "done", "other", "page"] : List Str)
  · simp only [List.mem_cons, List.not_mem_nil, or_false] at hm
    rcases hm with rfl | rfl | rfl | rfl | rfl
    · rw [if_pos (.inl rfl)] at h
      walk_at "q"
      refine q_cl (f := f__is_value_told) (by walk_at "lk") ?_
      walk_at "q"
      refine sp__is_value_told hp ?_
      exact Rt.now h
    · rw [if_neg (by decide +kernel), if_pos (.inl rfl)] at h
      walk_at "q"
      refine q_cl (f := f__is_word_alone) (by walk_at "lk") ?_
      walk_at "q"
      refine sp__is_word_alone ?_
      refine Rt.now (pb h (decide_eq_decide.mpr ?_))
      cases r <;> simp
      omega
    · rw [if_neg (by decide +kernel), if_pos (.inr rfl)] at h
      walk_at "q"
      refine q_cl (f := f__is_word_alone) (by walk_at "lk") ?_
      walk_at "q"
      refine sp__is_word_alone ?_
      refine Rt.now (pb h (decide_eq_decide.mpr ?_))
      cases r <;> simp
      omega
    · rw [if_pos (.inr rfl)] at h
      walk_at "q"
      refine q_cl (f := f__is_value_told) (by walk_at "lk") ?_
      walk_at "q"
      refine sp__is_value_told hp ?_
      exact Rt.now h
    · rw [if_neg (by decide +kernel), if_neg (by decide +kernel), if_pos rfl] at h
      walk_at "q"
      refine q_cl (f := f__is_page_told) (by walk_at "lk") ?_
      walk_at "q"
      refine sp__is_page_told hp ?_
      exact Rt.now h
  · have n := hm
    simp only [List.mem_cons, List.not_mem_nil, or_false, not_or] at hm
    obtain ⟨h1, h2, h3, h4, h5⟩ := hm
    rw [if_neg (by exact fun z => z.elim h1 h4), if_neg (by exact fun z => z.elim h2 h3), if_neg h5] at h
    refine q_t (by
      rw [show decide (k ∈ ([("value", W.fn "_is_value_told"), ("none", .fn "_is_word_alone"), ("done", .fn "_is_word_alone"), ("other", .fn "_is_value_told"), ("page", .fn "_is_page_told")] : List (Str × W)).map (·.1)) = false from decide_eq_false n]
      rfl) ?_
    walk_at "q"
    exact Rt.now h
theorem sp_ans {w : W} {μ : Mu} {P : Po} {X : Xo} (hp : dp w = true) (h : P (.bl (ansW w)) μ) : f_is_answer [w] μ P X := by
  cases w with
  | tup ws =>
    have hs := dp_tup hp
    cases ws with
    | nil => exact sp_ansK hp rfl h
    | cons a r =>
      cases a with
      | str k => exact sp_ansS hs h
      | non => exact sp_ansK hp rfl h
      | bl b => exact sp_ansK hp rfl h
      | int i => exact sp_ansK hp rfl h
      | tup us => exact sp_ansK hp rfl h
      | lst us => exact sp_ansK hp rfl h
      | _ => have := (dps_cons hs).1; unfold dp at this; cases this
  | non => exact sp_ansK hp rfl h
  | bl b => exact sp_ansK hp rfl h
  | int i => exact sp_ansK hp rfl h
  | str z => exact sp_ansK hp rfl h
  | lst us => exact sp_ansK hp rfl h
  | _ => unfold dp at hp; cases hp
end Q
namespace Q
open PySem L2
local macro_rules | `(tactic| walk_at "mu") => `(tactic| (repeat (first | exact mset_same | assumption | (rw [mset_ne]; rotate_left; (first | assumption | exact Ne.symm (by assumption))))))
local macro_rules | `(tactic| walk_at "lk") => `(tactic| (repeat (first | exact lk_hit | exact lk_nil | refine lk_skip (by decide +kernel) ?_)))
local macro_rules | `(tactic| walk_at "pf") => `(tactic| (repeat (first | rw [pf_nil] | rw [pf_hit] | (rw [pf_skip]; rotate_left; (focus (decide +kernel; done))))))
local macro_rules | `(tactic| walk_at "q") => `(tactic| ((with_reducible conv => whnf); repeat (first
  | (with_reducible refine q_t (by assumption) ?_; with_reducible conv => whnf)
  | (with_reducible refine q_f (by assumption) ?_; with_reducible conv => whnf)
  | (with_reducible refine q_t (by with_reducible rfl) ?_; with_reducible conv => whnf)
  | (with_reducible refine q_f (by with_reducible rfl) ?_; with_reducible conv => whnf)
  | (with_reducible refine q_t (by decide) ?_; with_reducible conv => whnf)
  | (with_reducible refine q_f (by decide) ?_; with_reducible conv => whnf)
  | (with_reducible refine q_t (decide_eq_true (by omega)) ?_; with_reducible conv => whnf)
  | (with_reducible refine q_f (decide_eq_false (by omega)) ?_; with_reducible conv => whnf)
  | (with_reducible refine q_f (q_nn (by omega)) ?_; with_reducible conv => whnf)
  | (with_reducible refine q_t (q_nt (by omega)) ?_; with_reducible conv => whnf)
  | (with_reducible refine q_len (by with_unfolding_all rfl) ?_; with_reducible conv => whnf)
  | (with_reducible refine q_leq (by with_unfolding_all rfl) ?_; with_reducible conv => whnf)
  | (with_reducible refine q_and (by first | assumption | exact True.intro | omega | (simp only [List.length_map, List.length_append, List.length_cons, List.length_nil]; omega) | decide) ?_; with_reducible conv => whnf)
  | (with_reducible refine q_le (by with_unfolding_all rfl) ?_; with_reducible conv => whnf)
  | (with_reducible refine q_and tyL_lst ?_; with_reducible conv => whnf)
  | (with_reducible refine q_and tyL_rol ?_; with_reducible conv => whnf)
  | (with_reducible refine q_and (tyL_ref (by walk_at "mu")) ?_; with_reducible conv => whnf)
  | (with_reducible refine q_and (tyD_ref (by walk_at "mu")) ?_; with_reducible conv => whnf)
  | (with_reducible refine q_and (rdD_ref (by walk_at "mu")) ?_; with_reducible conv => whnf)
  | (rw [pick_c0]; with_reducible conv => whnf)
  | (rw [pick_c1]; with_reducible conv => whnf)
  | (rw [pick_c2]; with_reducible conv => whnf)
  | (rw [pick_c3]; with_reducible conv => whnf)
  | (rw [pick_c4]; with_reducible conv => whnf)
  | (rw [pick_c5]; with_reducible conv => whnf)
  | (rw [mset_same]; with_reducible conv => whnf)
  | (rw [mset_ne (by assumption)]; with_reducible conv => whnf)
  | (rw [mset_ne]; rotate_left; (first | assumption | exact Ne.symm (by assumption)); with_reducible conv => whnf)
  | (rw [rdL_ref]; rotate_left; (focus (walk_at "mu"; done)); with_reducible conv => whnf)
  | (rw [rdL_refD]; rotate_left; (focus (walk_at "mu"; done)); with_reducible conv => whnf)
  | (rw [rdD_refD]; rotate_left; (focus (walk_at "mu"; done)); with_reducible conv => whnf)
  | (rw [rdM_ref]; rotate_left; (focus (walk_at "mu"; done)); with_reducible conv => whnf)
  | (rw [rdL_refK]; rotate_left; (focus (walk_at "mu"; done)); with_reducible conv => whnf)
  | (rw [rdD_refK]; rotate_left; (focus (walk_at "mu"; done)); with_reducible conv => whnf)
  | (rw [tyW_refL]; rotate_left; (focus (walk_at "mu"; done)); with_reducible conv => whnf)
  | (rw [tyW_refD]; rotate_left; (focus (walk_at "mu"; done)); with_reducible conv => whnf)
  | (rw [drf_ref]; rotate_left; (focus (walk_at "mu"; done)); with_reducible conv => whnf)
  | ((conv => (arg 2; tactic' => (walk_at "mu"; done))); with_reducible conv => whnf)
  | (with_reducible refine q_and (Eq.refl _) ?_; with_reducible conv => whnf)
  | (with_reducible refine q_and (MulO.r (by decide)) ?_; with_reducible conv => whnf)
  | (with_reducible refine q_and (MulO.l (by decide)) ?_; with_reducible conv => whnf)
  | (with_reducible refine q_and (MulO.r (by omega)) ?_; with_reducible conv => whnf)
  | (with_reducible refine q_and (MulO.l (by omega)) ?_; with_reducible conv => whnf)
  | (with_reducible refine q_pow (by decide) ?_; with_reducible conv => whnf)
  | (with_reducible refine q_nisT (by first | assumption | with_reducible rfl) ?_; with_reducible conv => whnf)
  | (with_reducible refine q_nisF (by first | assumption | with_reducible rfl) ?_; with_reducible conv => whnf)
  | (with_reducible refine q_eqI ?_; with_reducible conv => whnf)
  | (with_reducible refine q_eqS ?_; with_reducible conv => whnf)
  | (with_reducible refine q_eqB ?_; with_reducible conv => whnf)
  | (with_reducible refine q_neI ?_; with_reducible conv => whnf)
  | (with_reducible refine q_neS ?_; with_reducible conv => whnf)
  | (with_reducible refine q_neB ?_; with_reducible conv => whnf)
  | (with_reducible refine q_memc ?_; with_reducible conv => whnf)
  | (with_reducible refine q_lkn (by walk_at "lk") ?_; with_reducible conv => whnf)
  | (with_reducible refine q_tix (by walk_at "lk"; done) ?_; with_reducible conv => whnf)
  | (with_reducible refine q_tin ?_; with_reducible conv => whnf)
  | (rw [pf_hit]; with_reducible conv => whnf)
  | (rw [pf_skip]; rotate_left; (focus (decide +kernel; done)); with_reducible conv => whnf)
  | (rw [lk_hit]; with_reducible conv => whnf)
  | (rw [lk_skip1]; rotate_left; (focus (decide +kernel; done)); with_reducible conv => whnf))))
/-! letters: ranges, contents -/
def ltW (a b : W) : Bool := match a, b with
  | .str x, .str y => sLt x y
  | _, _ => false
def rangeW (a b : W) : Bool := boundW a && (match b with
  | .non => true
  | .str y => isKeyB y && ltW a (.str y)
  | _ => false)
theorem bound_str {a : W} (h : boundW a = true) : ∃ x, a = .str x := by
  cases a with
  | str x => exact ⟨x, rfl⟩
  | _ => cases h
theorem sp_is_range {a b : W} {μ : Mu} {P : Po} {X : Xo} (ha : pl a = true) (hb : pl b = true) (h : P (.bl (rangeW a b)) μ) : f_is_range [a, b] μ P X := by
  rw [f_is_range_eq]; unfold f_is_range_B fDef
  refine ⟨rfl, ?_⟩
  walk_at "q"
  refine sp_bound ha ?_
  unfold rangeW at h
  cases c : boundW a with
  | false =>
    rw [c, Bool.false_and] at h
    walk_at "q"
    exact Rt.now h
  | true =>
    rw [c, Bool.true_and] at h
    obtain ⟨x, rfl⟩ := bound_str c
    cases b with
    | non =>
      walk_at "q"
      exact Rt.now h
    | str y =>
      have h : P (.bl (isKeyB y && sLt x y)) μ := h
      walk_at "q"
      refine sp_key hb ?_
      cases c2 : keyW (.str y) with
      | false =>
        rw [show isKeyB y = false from c2, Bool.false_and] at h
        walk_at "q"
        exact Rt.now h
      | true =>
        rw [show isKeyB y = true from c2, Bool.true_and] at h
        walk_at "q"
        exact Rt.now h
    | bl i =>
      walk_at "q"
      refine sp_key hb ?_
      walk_at "q"
      exact Rt.now h
    | int i =>
      walk_at "q"
      refine sp_key hb ?_
      walk_at "q"
      exact Rt.now h
    | tup i =>
      walk_at "q"
      refine sp_key hb ?_
      walk_at "q"
      exact Rt.now h
    | lst i =>
      walk_at "q"
      refine sp_key hb ?_
      walk_at "q"
      exact Rt.now h
    | _ => cases hb
def numW (w : W) : Bool := intB w 1 1000000000000
theorem sp_is_number {w : W} {μ : Mu} {P : Po} {X : Xo} (hp : pl w = true) (h : P (.bl (numW w)) μ) : f_is_number [w] μ P X := by
  rw [f_is_number_eq]; unfold f_is_number_B fDef
  refine ⟨rfl, ?_⟩
  walk_at "q"
  refine sp_int hp ?_
  exact Rt.now h
/-- keys in a range -/
def inB (a b : W) (w : W) : Bool := match w with
  | .tup (k :: _) => (match a, k with
    | .str x, .str z => !sLt z x && (match b with
      | .str y => sLt z y
      | _ => true)
    | _, _ => false)
  | _ => false
def inPairs (a b : W) (w : W) : Bool := pairsB w && (match w with
  | .tup ws => ws.all (inB a b)
  | _ => false)
theorem ris_mem : ∀ {z : Str} {ws : List W}, risB z ws = true → ∀ w ∈ ws, pairB w = true
  | z, [], _, w, hw => by cases hw
  | z, x :: ws, h, w, hw => by
    cases e : pairB x with
    | false =>
      rw [risB_no e] at h
      cases h
    | true =>
      obtain ⟨k, v, rfl, _, _⟩ := pairB_some e
      have h : ((isKeyB k && valB v) && (sLt z k && risB k ws)) = true := h
      rcases List.mem_cons.mp hw with rfl | hw
      · exact e
      · exact ris_mem (Bool.and_eq_true_iff.mp (Bool.and_eq_true_iff.mp h).2).2 w hw
theorem sp_is_pairs {a b w : W} {μ : Mu} {P : Po} {X : Xo} (hr : rangeW a b = true) (hp : dp w = true) (h : P (.bl (inPairs a b w)) μ) : f_is_pairs [a, b, w] μ P X := by
  rw [f_is_pairs_eq]; unfold f_is_pairs_B fDef
  refine ⟨rfl, ?_⟩
  walk_at "q"
  refine sp_are_pairs hp ?_
  unfold inPairs at h
  cases c : pairsB w with
  | false =>
    rw [c, Bool.false_and] at h
    walk_at "q"
    exact Rt.now h
  | true =>
    rw [c, Bool.true_and] at h
    cases w with
    | tup ws =>
      have c : risB "" ws = true := c
      have hm := ris_mem c
      have h : P (.bl (ws.all (inB a b))) μ := h
      obtain ⟨x, rfl⟩ := bound_str (Bool.and_eq_true_iff.mp hr).1
      have hb : b = .non ∨ ∃ y, b = .str y := by
        have := (Bool.and_eq_true_iff.mp hr).2
        cases b with
        | non => exact .inl rfl
        | str y => exact .inr ⟨y, rfl⟩
        | _ => cases this
      walk_at "q"
      refine itS_ws (fun done rest ρ μ' => μ' = μ ∧ (∀ u ∈ rest, pairB u = true) ∧ ∃ (x3 x4 : Option W), ρ = [some (.str x), some b, some (.tup ws), x3, x4] ∧ ws.all (inB (.str x) b) = rest.all (inB (.str x) b)) ws ⟨rfl, hm, none, none, rfl, rfl⟩ ?_ ?_
      · rintro done u rest ρ μ' ⟨rfl, hu, x3, x4, rfl, e⟩
        refine ⟨trivial, fun K hK => ?_⟩
        obtain ⟨k, v, rfl, k1, k2⟩ := pairB_some (hu u List.mem_cons_self)
        rw [List.all_cons] at e
        have go : ∀ t : Bool, inB (.str x) b (.tup [.str k, v]) = t → (if t = true then K [some (.str x), some b, some (.tup ws), some (.str k), some v] μ' else Rt P (.bl false) μ') := fun t ht => by
          cases t with
          | true =>
            rw [ht, Bool.true_and] at e
            exact hK _ _ ⟨rfl, fun u h => hu u (List.mem_cons_of_mem _ h), _, _, rfl, e⟩
          | false =>
            rw [ht, Bool.false_and] at e
            exact Rt.now (pb h e)
        walk_at "q"
        rw [f_contains_eq]; unfold f_contains_B fDef
        refine ⟨rfl, ?_⟩
        walk_at "q"
        refine q_if (fun c2 => ?_) fun c2 => ?_
        · walk_at "q"
          rcases hb with rfl | ⟨y, rfl⟩
          · refine sp_below (y := none) ?_
            have e2 : inB (.str x) .non (.tup [.str k, v]) = true := by show (!sLt k x && true) = true; rw [c2]; rfl
            have g := go _ e2
            refine Rt.now ?_
            walk_at "q"
            exact g
          · refine sp_below (y := some y) ?_
            have e2 : inB (.str x) (.str y) (.tup [.str k, v]) = sLt k y := by show (!sLt k x && sLt k y) = _; rw [c2]; rfl
            have g := go _ e2
            refine Rt.now ?_
            show if (!sLt k y) = true then _ else _
            cases c4 : sLt k y with
            | true =>
              rw [c4] at g
              walk_at "q"
              exact g
            | false =>
              rw [c4] at g
              walk_at "q"
              exact g
        · have e2 : inB (.str x) b (.tup [.str k, v]) = false := by
            show (!sLt k x && _) = false
            rw [c2]
            rfl
          have g := go _ e2
          refine Rt.now ?_
          walk_at "q"
          exact g
      · rintro done ρ μ' ⟨rfl, hu, x3, x4, rfl, e⟩
        refine ⟨trivial, ?_⟩
        walk_at "q"
        exact Rt.now (pb h e)
    | _ => cases c
/-- sessions -/
def rowB : W → Bool
  | .tup [c, n, a] => intB c (-100) (-1) && (numW n && ansW a)
  | _ => false
def lastOk : Option Int → Int → Bool
  | none, _ => true
  | some l, i => decide (l < i)
def rowsL : Option Int → List W → Bool
  | _, [] => true
  | l, .tup [.int c, n, a] :: r => (intB (.int c) (-100) (-1) && (numW n && ansW a)) && (lastOk l c && rowsL (some c) r)
  | _, _ => false
def rowsW : W → Bool
  | .tup ws => rowsL none ws
  | _ => false
theorem rowB_some {w : W} (h : rowB w = true) : ∃ (c : Int) (n a : W), w = .tup [.int c, n, a] ∧ (intB (.int c) (-100) (-1) && (numW n && ansW a)) = true := by
  unfold rowB at h
  split at h
  · rename_i c n a
    cases c with
    | int c => exact ⟨c, n, a, rfl, h⟩
    | _ => cases h
  · cases h
theorem rowsL_no {l : Option Int} {w : W} {r : List W} (h : rowB w = false) : rowsL l (w :: r) = false := by
  unfold rowsL
  split
  · rename_i e
    cases e
  · rename_i c n a r' e
    cases e
    have h : (intB (.int c) (-100) (-1) && (numW n && ansW a)) = false := h
    rw [h]
    rfl
  · rfl
end Q
namespace Q
open PySem L2
local macro_rules | `(tactic| walk_at "mu") => `(tactic| (repeat (first | exact mset_same | assumption | (rw [mset_ne]; rotate_left; (first | assumption | exact Ne.symm (by assumption))))))
local macro_rules | `(tactic| walk_at "lk") => `(tactic| (repeat (first | exact lk_hit | exact lk_nil | refine lk_skip (by decide +kernel) ?_)))
local macro_rules | `(tactic| walk_at "pf") => `(tactic| (repeat (first | rw [pf_nil] | rw [pf_hit] | (rw [pf_skip]; rotate_left; (focus (decide +kernel; done))))))
local macro_rules | `(tactic| walk_at "q") => `(tactic| ((with_reducible conv => whnf); repeat (first
  | (with_reducible refine q_t (by assumption) ?_; with_reducible conv => whnf)
  | (with_reducible refine q_f (by assumption) ?_; with_reducible conv => whnf)
  | (with_reducible refine q_t (by with_reducible rfl) ?_; with_reducible conv => whnf)
  | (with_reducible refine q_f (by with_reducible rfl) ?_; with_reducible conv => whnf)
  | (with_reducible refine q_t (by decide) ?_; with_reducible conv => whnf)
  | (with_reducible refine q_f (by decide) ?_; with_reducible conv => whnf)
  | (with_reducible refine q_t (decide_eq_true (by omega)) ?_; with_reducible conv => whnf)
  | (with_reducible refine q_f (decide_eq_false (by omega)) ?_; with_reducible conv => whnf)
  | (with_reducible refine q_f (q_nn (by omega)) ?_; with_reducible conv => whnf)
  | (with_reducible refine q_t (q_nt (by omega)) ?_; with_reducible conv => whnf)
  | (with_reducible refine q_len (by with_unfolding_all rfl) ?_; with_reducible conv => whnf)
  | (with_reducible refine q_leq (by with_unfolding_all rfl) ?_; with_reducible conv => whnf)
  | (with_reducible refine q_and (by first | assumption | exact True.intro | omega | (simp only [List.length_map, List.length_append, List.length_cons, List.length_nil]; omega) | decide) ?_; with_reducible conv => whnf)
  | (with_reducible refine q_le (by with_unfolding_all rfl) ?_; with_reducible conv => whnf)
  | (with_reducible refine q_and tyL_lst ?_; with_reducible conv => whnf)
  | (with_reducible refine q_and tyL_rol ?_; with_reducible conv => whnf)
  | (with_reducible refine q_and (tyL_ref (by walk_at "mu")) ?_; with_reducible conv => whnf)
  | (with_reducible refine q_and (tyD_ref (by walk_at "mu")) ?_; with_reducible conv => whnf)
  | (with_reducible refine q_and (rdD_ref (by walk_at "mu")) ?_; with_reducible conv => whnf)
  | (rw [pick_c0]; with_reducible conv => whnf)
  | (rw [pick_c1]; with_reducible conv => whnf)
  | (rw [pick_c2]; with_reducible conv => whnf)
  | (rw [pick_c3]; with_reducible conv => whnf)
  | (rw [pick_c4]; with_reducible conv => whnf)
  | (rw [pick_c5]; with_reducible conv => whnf)
  | (rw [mset_same]; with_reducible conv => whnf)
  | (rw [mset_ne (by assumption)]; with_reducible conv => whnf)
  | (rw [mset_ne]; rotate_left; (first | assumption | exact Ne.symm (by assumption)); with_reducible conv => whnf)
  | (rw [rdL_ref]; rotate_left; (focus (walk_at "mu"; done)); with_reducible conv => whnf)
  | (rw [rdL_refD]; rotate_left; (focus (walk_at "mu"; done)); with_reducible conv => whnf)
  | (rw [rdD_refD]; rotate_left; (focus (walk_at "mu"; done)); with_reducible conv => whnf)
  | (rw [rdM_ref]; rotate_left; (focus (walk_at "mu"; done)); with_reducible conv => whnf)
  | (rw [rdL_refK]; rotate_left; (focus (walk_at "mu"; done)); with_reducible conv => whnf)
  | (rw [rdD_refK]; rotate_left; (focus (walk_at "mu"; done)); with_reducible conv => whnf)
  | (rw [tyW_refL]; rotate_left; (focus (walk_at "mu"; done)); with_reducible conv => whnf)
  | (rw [tyW_refD]; rotate_left; (focus (walk_at "mu"; done)); with_reducible conv => whnf)
  | (rw [drf_ref]; rotate_left; (focus (walk_at "mu"; done)); with_reducible conv => whnf)
  | ((conv => (arg 2; tactic' => (walk_at "mu"; done))); with_reducible conv => whnf)
  | (with_reducible refine q_and (Eq.refl _) ?_; with_reducible conv => whnf)
  | (with_reducible refine q_and (MulO.r (by decide)) ?_; with_reducible conv => whnf)
  | (with_reducible refine q_and (MulO.l (by decide)) ?_; with_reducible conv => whnf)
  | (with_reducible refine q_and (MulO.r (by omega)) ?_; with_reducible conv => whnf)
  | (with_reducible refine q_and (MulO.l (by omega)) ?_; with_reducible conv => whnf)
  | (with_reducible refine q_pow (by decide) ?_; with_reducible conv => whnf)
  | (with_reducible refine q_nisT (by first | assumption | with_reducible rfl) ?_; with_reducible conv => whnf)
  | (with_reducible refine q_nisF (by first | assumption | with_reducible rfl) ?_; with_reducible conv => whnf)
  | (with_reducible refine q_eqI ?_; with_reducible conv => whnf)
  | (with_reducible refine q_eqS ?_; with_reducible conv => whnf)
  | (with_reducible refine q_eqB ?_; with_reducible conv => whnf)
  | (with_reducible refine q_neI ?_; with_reducible conv => whnf)
  | (with_reducible refine q_neS ?_; with_reducible conv => whnf)
  | (with_reducible refine q_neB ?_; with_reducible conv => whnf)
  | (with_reducible refine q_memc ?_; with_reducible conv => whnf)
  | (with_reducible refine q_lkn (by walk_at "lk") ?_; with_reducible conv => whnf)
  | (with_reducible refine q_tix (by walk_at "lk"; done) ?_; with_reducible conv => whnf)
  | (with_reducible refine q_tin ?_; with_reducible conv => whnf)
  | (rw [pf_hit]; with_reducible conv => whnf)
  | (rw [pf_skip]; rotate_left; (focus (decide +kernel; done)); with_reducible conv => whnf)
  | (rw [lk_hit]; with_reducible conv => whnf)
  | (rw [lk_skip1]; rotate_left; (focus (decide +kernel; done)); with_reducible conv => whnf))))
/-! letters: sessions, the eleven kinds -/
theorem sp_cli {w : W} {μ : Mu} {P : Po} {X : Xo} (hp : pl w = true) (h : P (.bl (intB w (-100) (-1))) μ) : f_is_client [w] μ P X := by
  rw [f_is_client_eq]; unfold f_is_client_B fDef
  refine ⟨rfl, ?_⟩
  walk_at "q"
  refine sp_int hp ?_
  exact Rt.now h
theorem sp__is_row {w : W} {μ : Mu} {P : Po} {X : Xo} (hp : dp w = true) (h : P (.bl (rowB w)) μ) : f__is_row [w] μ P X := by
  rw [f__is_row_eq]; unfold f__is_row_B fDef
  refine ⟨rfl, ?_⟩
  cases w with
  | tup ws =>
    have hd := dp_tup hp
    have hs := dps_pl hd
    match ws, hs, hd, h with
    | [], _, _, h =>
      walk_at "q"
      exact Rt.now h
    | [_], _, _, h =>
      walk_at "q"
      refine q_t rfl ?_
      walk_at "q"
      exact Rt.now h
    | [_, _], _, _, h =>
      walk_at "q"
      refine q_t rfl ?_
      walk_at "q"
      exact Rt.now h
    | [c, n, a], hs, hd, h =>
      have h : P (.bl (intB c (-100) (-1) && (numW n && ansW a))) μ := h
      have da := (dps_cons (dps_cons (dps_cons hd).2).2).1
      walk_at "q"
      refine q_f rfl ?_
      walk_at "q"
      refine sp_cli (hs c (by simp)) ?_
      refine q_if (fun c1 => ?_) fun c1 => ?_
      · walk_at "q"
        refine sp_is_number (hs n (by simp)) ?_
        refine q_if (fun c2 => ?_) fun c2 => ?_
        · walk_at "q"
          refine sp_ans da ?_
          exact Rt.now (pb h (by simp [c1, c2]))
        · exact Rt.now (pb h (by simp [c1, c2]))
      · exact Rt.now (pb h (by simp [c1]))
    | _ :: _ :: _ :: _ :: r, _, _, h =>
      walk_at "q"
      refine q_t (by simp only [List.length_cons]; rw [decide_eq_false (by omega)]; rfl) ?_
      walk_at "q"
      exact Rt.now h
  | non =>
    walk_at "q"
    exact Rt.now h
  | bl b =>
    walk_at "q"
    exact Rt.now h
  | int i =>
    walk_at "q"
    exact Rt.now h
  | str z =>
    walk_at "q"
    exact Rt.now h
  | lst us =>
    walk_at "q"
    exact Rt.now h
  | _ => unfold dp at hp; cases hp
def oI : Option Int → W
  | none => .non
  | some i => .int i
theorem sp_is_rows {w : W} {μ : Mu} {P : Po} {X : Xo} (hp : dp w = true) (h : P (.bl (rowsW w)) μ) : f_is_rows [w] μ P X := by
  rw [f_is_rows_eq]; unfold f_is_rows_B fDef
  refine ⟨rfl, ?_⟩
  cases w with
  | tup ws =>
    have hs := dp_tup hp
    walk_at "q"
    refine itS_ws (fun done rest ρ μ' => μ' = μ ∧ dps rest = true ∧ ∃ (z : Option Int) (x2 : Option W), ρ = [some (.tup ws), some (oI z), x2] ∧ rowsL none ws = rowsL z rest) ws ⟨rfl, hs, none, none, rfl, rfl⟩ ?_ ?_
    · rintro done a rest ρ μ' ⟨rfl, hd, z, x2, rfl, e⟩
      obtain ⟨ha, hr⟩ := dps_cons hd
      refine ⟨trivial, fun K hK => ?_⟩
      walk_at "q"
      refine sp__is_row ha ?_
      cases c : rowB a with
      | false =>
        rw [rowsL_no c] at e
        walk_at "q"
        exact Rt.now (pb h e)
      | true =>
        obtain ⟨k, n, v, rfl, k1⟩ := rowB_some c
        have e2 : rowsL z (.tup [.int k, n, v] :: rest) = ((intB (.int k) (-100) (-1) && (numW n && ansW v)) && (lastOk z k && rowsL (some k) rest)) := rfl
        rw [k1, Bool.true_and] at e2
        cases z with
        | none =>
          rw [show lastOk none k = true from rfl, Bool.true_and] at e2
          walk_at "q"
          exact hK _ _ ⟨rfl, hr, some k, _, rfl, by rw [e, e2]⟩
        | some l =>
          have eo : oI (some l) = .int l := rfl
          rw [eo]
          walk_at "q"
          refine q_ifP (fun c3 => ?_) fun c3 => ?_
          · rw [show lastOk (some l) k = false from decide_eq_false (by omega), Bool.false_and] at e2
            walk_at "q"
            exact Rt.now (pb h (by rw [show rowsW (.tup ws) = rowsL none ws from rfl, e, e2]))
          · rw [show lastOk (some l) k = true from decide_eq_true (by omega), Bool.true_and] at e2
            walk_at "q"
            exact hK _ _ ⟨rfl, hr, some k, _, rfl, by rw [e, e2]⟩
    · rintro done ρ μ' ⟨rfl, hd, z, x2, rfl, e⟩
      refine ⟨trivial, ?_⟩
      walk_at "q"
      exact Rt.now (pb h e)
  | non =>
    walk_at "q"
    exact Rt.now h
  | bl b =>
    walk_at "q"
    exact Rt.now h
  | int i =>
    walk_at "q"
    exact Rt.now h
  | str z =>
    walk_at "q"
    exact Rt.now h
  | lst us =>
    walk_at "q"
    exact Rt.now h
  | _ => unfold dp at hp; cases hp
end Q
namespace Q
open PySem L2
local macro_rules | `(tactic| walk_at "mu") => `(tactic| (repeat (first | exact mset_same | assumption | (rw [mset_ne]; rotate_left; (first | assumption | exact Ne.symm (by assumption))))))
local macro_rules | `(tactic| walk_at "lk") => `(tactic| (repeat (first | exact lk_hit | exact lk_nil | refine lk_skip (by decide +kernel) ?_)))
local macro_rules | `(tactic| walk_at "pf") => `(tactic| (repeat (first | rw [pf_nil] | rw [pf_hit] | (rw [pf_skip]; rotate_left; (focus (decide +kernel; done))))))
local macro_rules | `(tactic| walk_at "q") => `(tactic| ((with_reducible conv => whnf); repeat (first
  | (with_reducible refine q_t (by assumption) ?_; with_reducible conv => whnf)
  | (with_reducible refine q_f (by assumption) ?_; with_reducible conv => whnf)
  | (with_reducible refine q_t (by with_reducible rfl) ?_; with_reducible conv => whnf)
  | (with_reducible refine q_f (by with_reducible rfl) ?_; with_reducible conv => whnf)
  | (with_reducible refine q_t (by decide) ?_; with_reducible conv => whnf)
  | (with_reducible refine q_f (by decide) ?_; with_reducible conv => whnf)
  | (with_reducible refine q_t (decide_eq_true (by omega)) ?_; with_reducible conv => whnf)
  | (with_reducible refine q_f (decide_eq_false (by omega)) ?_; with_reducible conv => whnf)
  | (with_reducible refine q_f (q_nn (by omega)) ?_; with_reducible conv => whnf)
  | (with_reducible refine q_t (q_nt (by omega)) ?_; with_reducible conv => whnf)
  | (with_reducible refine q_len (by with_unfolding_all rfl) ?_; with_reducible conv => whnf)
  | (with_reducible refine q_leq (by with_unfolding_all rfl) ?_; with_reducible conv => whnf)
  | (with_reducible refine q_and (by first | assumption | exact True.intro | omega | (simp only [List.length_map, List.length_append, List.length_cons, List.length_nil]; omega) | decide) ?_; with_reducible conv => whnf)
  | (with_reducible refine q_le (by with_unfolding_all rfl) ?_; with_reducible conv => whnf)
  | (with_reducible refine q_and tyL_lst ?_; with_reducible conv => whnf)
  | (with_reducible refine q_and tyL_rol ?_; with_reducible conv => whnf)
  | (with_reducible refine q_and (tyL_ref (by walk_at "mu")) ?_; with_reducible conv => whnf)
  | (with_reducible refine q_and (tyD_ref (by walk_at "mu")) ?_; with_reducible conv => whnf)
  | (with_reducible refine q_and (rdD_ref (by walk_at "mu")) ?_; with_reducible conv => whnf)
  | (rw [pick_c0]; with_reducible conv => whnf)
  | (rw [pick_c1]; with_reducible conv => whnf)
  | (rw [pick_c2]; with_reducible conv => whnf)
  | (rw [pick_c3]; with_reducible conv => whnf)
  | (rw [pick_c4]; with_reducible conv => whnf)
  | (rw [pick_c5]; with_reducible conv => whnf)
  | (rw [mset_same]; with_reducible conv => whnf)
  | (rw [mset_ne (by assumption)]; with_reducible conv => whnf)
  | (rw [mset_ne]; rotate_left; (first | assumption | exact Ne.symm (by assumption)); with_reducible conv => whnf)
  | (rw [rdL_ref]; rotate_left; (focus (walk_at "mu"; done)); with_reducible conv => whnf)
  | (rw [rdL_refD]; rotate_left; (focus (walk_at "mu"; done)); with_reducible conv => whnf)
  | (rw [rdD_refD]; rotate_left; (focus (walk_at "mu"; done)); with_reducible conv => whnf)
  | (rw [rdM_ref]; rotate_left; (focus (walk_at "mu"; done)); with_reducible conv => whnf)
  | (rw [rdL_refK]; rotate_left; (focus (walk_at "mu"; done)); with_reducible conv => whnf)
  | (rw [rdD_refK]; rotate_left; (focus (walk_at "mu"; done)); with_reducible conv => whnf)
  | (rw [tyW_refL]; rotate_left; (focus (walk_at "mu"; done)); with_reducible conv => whnf)
  | (rw [tyW_refD]; rotate_left; (focus (walk_at "mu"; done)); with_reducible conv => whnf)
  | (rw [drf_ref]; rotate_left; (focus (walk_at "mu"; done)); with_reducible conv => whnf)
  | ((conv => (arg 2; tactic' => (walk_at "mu"; done))); with_reducible conv => whnf)
  | (with_reducible refine q_and (Eq.refl _) ?_; with_reducible conv => whnf)
  | (with_reducible refine q_and (MulO.r (by decide)) ?_; with_reducible conv => whnf)
  | (with_reducible refine q_and (MulO.l (by decide)) ?_; with_reducible conv => whnf)
  | (with_reducible refine q_and (MulO.r (by omega)) ?_; with_reducible conv => whnf)
  | (with_reducible refine q_and (MulO.l (by omega)) ?_; with_reducible conv => whnf)
  | (with_reducible refine q_pow (by decide) ?_; with_reducible conv => whnf)
  | (with_reducible refine q_nisT (by first | assumption | with_reducible rfl) ?_; with_reducible conv => whnf)
  | (with_reducible refine q_nisF (by first | assumption | with_reducible rfl) ?_; with_reducible conv => whnf)
  | (with_reducible refine q_eqI ?_; with_reducible conv => whnf)
  | (with_reducible refine q_eqS ?_; with_reducible conv => whnf)
  | (with_reducible refine q_eqB ?_; with_reducible conv => whnf)
  | (with_reducible refine q_neI ?_; with_reducible conv => whnf)
  | (with_reducible refine q_neS ?_; with_reducible conv => whnf)
  | (with_reducible refine q_neB ?_; with_reducible conv => whnf)
  | (with_reducible refine q_memc ?_; with_reducible conv => whnf)
  | (with_reducible refine q_lkn (by walk_at "lk") ?_; with_reducible conv => whnf)
  | (with_reducible refine q_tix (by walk_at "lk"; done) ?_; with_reducible conv => whnf)
  | (with_reducible refine q_tin ?_; with_reducible conv => whnf)
  | (rw [pf_hit]; with_reducible conv => whnf)
  | (rw [pf_skip]; rotate_left; (focus (decide +kernel; done)); with_reducible conv => whnf)
  | (rw [lk_hit]; with_reducible conv => whnf)
  | (rw [lk_skip1]; rotate_left; (focus (decide +kernel; done)); with_reducible conv => whnf))))
/-! sessions: at e, their table at l -/
theorem inl_inj (a b : Int) (h : (Sum.inl a : Key) = Sum.inl b) : a = b := Sum.inl.inj h
theorem inr_inj (a b : Str) (h : (Sum.inr a : Key) = Sum.inr b) : a = b := Sum.inr.inj h
abbrev Ss : Type := Tb Int (Int × W)
def rowW (c : Int) (x : Int × W) : W := .tup [.int c, .int x.1, x.2]
abbrev encS (ss : Ss) : List (Key × W) := encT (fun i => (Sum.inl i : Key)) rowW ss
@[reducible] def sesO (l : Addr) : O := .ins "Sessions" [("_last", .ref l)]
theorem encS_val (ss : Ss) (c : Int) : valW (encS ss) (Sum.inl c) = (getT ss c).map (rowW c) := encT_val inl_inj ss c
theorem encS_put (ss : Ss) (c n : Int) (a : W) : putW (encS ss) (Sum.inl c) (.tup [.int c, .int n, a]) = encS (putT ss c (n, a)) := encT_put inl_inj ss c (n, a)
def statS (ss : Ss) (c n : Int) : Str := match getT ss c with
  | none => "new"
  | some x => if n = x.1 then "again" else if x.1 < n then "new" else "stale"
section
variable {e l : Addr} {ss : Ss} {μ : Mu} {P : Po} {X : Xo}
theorem sp_Sinit (k : ∀ l, l ≠ e → μ l = none → P .non (mset (mset μ l (.dk [])) e (sesO l))) : f_Sessions___init__ [.ref e] (mset μ e (.ins "Sessions" [])) P X := by
  rw [f_Sessions___init___eq]; unfold f_Sessions___init___B fDef
  refine ⟨rfl, ?_⟩
  walk_at "q"
  intro l hl
  obtain ⟨n, hl⟩ := new_ne hl
  walk_at "q"
  walk_at "pf"
  rw [mset_comm (Ne.symm n), mset_mset]
  exact Rt.now (k l n hl)
theorem sp_Sstatus {c n : Int} (he : μ e = some (sesO l)) (hl : μ l = some (.dk (encS ss))) (h : P (.str (statS ss c n)) μ) : f_Sessions_status [.ref e, .int c, .int n] μ P X := by
  rw [f_Sessions_status_eq]; unfold f_Sessions_status_B fDef
  refine ⟨rfl, ?_⟩
  unfold sesO at he
  unfold statS at h
  have ev := encS_val ss c
  cases eg : getT ss c with
  | none =>
    rw [eg] at h ev
    walk_at "q"
    refine q_t (by rw [ev]; rfl) ?_
    walk_at "q"
    exact Rt.now h
  | some x =>
    rw [eg] at h ev
    simp only at h
    have ev : valW (encS ss) (Sum.inl c) = some (.tup [.int c, .int x.1, x.2]) := ev
    walk_at "q"
    refine q_f (by rw [ev]; rfl) ?_
    walk_at "q"
    refine q_ifP (fun c1 => ?_) fun c1 => ?_
    · rw [if_pos c1] at h
      walk_at "q"
      exact Rt.now h
    · rw [if_neg c1] at h
      walk_at "q"
      refine q_ifP (fun c2 => ?_) fun c2 => ?_
      · rw [if_pos c2] at h
        walk_at "q"
        exact Rt.now h
      · rw [if_neg c2] at h
        walk_at "q"
        exact Rt.now h
theorem sp_Sanswer {c : Int} (he : μ e = some (sesO l)) (hl : μ l = some (.dk (encS ss))) (h : ∀ x, getT ss c = some x → P x.2 μ) (hx : getT ss c = none → X "BadShard" [] μ) : f_Sessions_answer [.ref e, .int c] μ P X := by
  rw [f_Sessions_answer_eq]; unfold f_Sessions_answer_B fDef
  refine ⟨rfl, ?_⟩
  unfold sesO at he
  have ev := encS_val ss c
  cases eg : getT ss c with
  | none =>
    rw [eg] at ev
    walk_at "q"
    refine q_t (by rw [ev]; rfl) ?_
    walk_at "q"
    exact ⟨μ, Sub.refl μ, hx eg⟩
  | some x =>
    rw [eg] at ev
    have ev : valW (encS ss) (Sum.inl c) = some (.tup [.int c, .int x.1, x.2]) := ev
    walk_at "q"
    refine q_f (by rw [ev]; rfl) ?_
    walk_at "q"
    exact Rt.now (h x eg)
theorem sp_Sremember {c n : Int} {a : W} (he : μ e = some (sesO l)) (hl : μ l = some (.dk (encS ss))) (hz : ss.length < 10000000) (h : statS ss c n = "new" → P .non (mset μ l (.dk (encS (putT ss c (n, a)))))) (hx : statS ss c n ≠ "new" → X "BadShard" [] μ) : f_Sessions_remember [.ref e, .int c, .int n, a] μ P X := by
  rw [f_Sessions_remember_eq]; unfold f_Sessions_remember_B fDef
  refine ⟨rfl, ?_⟩
  have he' : μ e = some (.ins "Sessions" [("_last", .ref l)]) := he
  walk_at "q"
  refine sp_Sstatus he hl ?_
  walk_at "q"
  by_cases c1 : statS ss c n = "new"
  · refine q_f (by rw [decide_eq_true c1]; rfl) ?_
    walk_at "q"
    refine ⟨by rw [encT_len]; omega, ?_⟩
    rw [encS_put]
    walk_at "q"
    exact Rt.now (h c1)
  · refine q_t (by rw [decide_eq_false c1]; rfl) ?_
    walk_at "q"
    exact ⟨μ, Sub.refl μ, hx c1⟩
/-- the rows, rising -/
def rowsS (ss : Ss) : List W := (So.sortI (keysT ss)).map fun c => rowW c ((getT ss c).getD (0, .non))
theorem keys_encS (ss : Ss) : (encS ss).map (·.1) = (keysT ss).map Sum.inl := by
  unfold encS encT keysT
  rw [List.map_map, List.map_map]
  rfl
theorem srt_memI (ss : Ss) (c : Int) : c ∈ So.sortI (keysT ss) ↔ (getT ss c).isSome = true := by
  rw [(So.sortI_perm _).mem_iff, mem_keysT]
theorem sortI_len (ks : List Int) : (So.sortI ks).length = ks.length := (So.sortI_perm ks).length_eq
theorem keysT_len {κ α : Type} (t : Tb κ α) : (keysT t).length = t.length := List.length_map _
theorem sp_Srows (he : μ e = some (sesO l)) (hl : μ l = some (.dk (encS ss))) (hz : ss.length < 64) (h : P (.tup (rowsS ss)) μ) : f_Sessions_rows [.ref e] μ P X := by
  rw [f_Sessions_rows_eq]; unfold f_Sessions_rows_B fDef
  refine ⟨rfl, ?_⟩
  unfold sesO at he
  walk_at "q"
  refine ⟨keysT ss, keys_encS ss, by rw [keysT_len]; exact hz, ?_⟩
  have lz : (So.sortI (keysT ss)).length ≤ 16000000 := by rw [sortI_len, keysT_len]; omega
  walk_at "q"
  refine lcV_m W.int (fun c => rowW c ((getT ss c).getD (0, .non))) (So.sortI (keysT ss)) lz (fun _ _ => rfl) (fun c hc μ' hx Y hy => ?_) ?_
  · have he2 := hx _ _ he
    have hl2 := hx _ _ hl
    obtain ⟨x, ex⟩ := Option.isSome_iff_exists.mp ((srt_memI ss c).mp hc)
    have ev := encS_val ss c
    rw [ex] at ev hy
    have ev : valW (encS ss) (Sum.inl c) = some (rowW c x) := ev
    walk_at "q"
    exact hy
  · walk_at "q"
    exact Rt.now h
theorem stat_new {ss : Ss} {c n : Int} : statS ss c n = "new" ↔ (∀ x, getT ss c = some x → x.1 < n) := by
  unfold statS
  cases e : getT ss c with
  | none => exact ⟨fun _ x hx => (by cases hx), fun _ => rfl⟩
  | some x =>
    simp only
    by_cases c1 : n = x.1
    · rw [if_pos c1]
      constructor
      · intro z
        exact absurd z (by decide +kernel)
      · intro z
        have := z x rfl
        omega
    · rw [if_neg c1]
      by_cases c2 : x.1 < n
      · rw [if_pos c2]
        exact ⟨fun _ y hy => by cases hy; exact c2, fun _ => rfl⟩
      · rw [if_neg c2]
        constructor
        · intro z
          exact absurd z (by decide +kernel)
        · intro z
          exact absurd (z x rfl) c2
end
end Q
namespace Q
open PySem L2
local macro_rules | `(tactic| walk_at "mu") => `(tactic| (repeat (first | exact mset_same | assumption | (rw [mset_ne]; rotate_left; (first | assumption | exact Ne.symm (by assumption))))))
local macro_rules | `(tactic| walk_at "lk") => `(tactic| (repeat (first | exact lk_hit | exact lk_nil | refine lk_skip (by decide +kernel) ?_)))
local macro_rules | `(tactic| walk_at "pf") => `(tactic| (repeat (first | rw [pf_nil] | rw [pf_hit] | (rw [pf_skip]; rotate_left; (focus (decide +kernel; done))))))
local macro_rules | `(tactic| walk_at "q") => `(tactic| ((with_reducible conv => whnf); repeat (first
  | (with_reducible refine q_t (by assumption) ?_; with_reducible conv => whnf)
  | (with_reducible refine q_f (by assumption) ?_; with_reducible conv => whnf)
  | (with_reducible refine q_t (by with_reducible rfl) ?_; with_reducible conv => whnf)
  | (with_reducible refine q_f (by with_reducible rfl) ?_; with_reducible conv => whnf)
  | (with_reducible refine q_t (by decide) ?_; with_reducible conv => whnf)
  | (with_reducible refine q_f (by decide) ?_; with_reducible conv => whnf)
  | (with_reducible refine q_t (decide_eq_true (by omega)) ?_; with_reducible conv => whnf)
  | (with_reducible refine q_f (decide_eq_false (by omega)) ?_; with_reducible conv => whnf)
  | (with_reducible refine q_f (q_nn (by omega)) ?_; with_reducible conv => whnf)
  | (with_reducible refine q_t (q_nt (by omega)) ?_; with_reducible conv => whnf)
  | (with_reducible refine q_len (by with_unfolding_all rfl) ?_; with_reducible conv => whnf)
  | (with_reducible refine q_leq (by with_unfolding_all rfl) ?_; with_reducible conv => whnf)
  | (with_reducible refine q_and (by first | assumption | exact True.intro | omega | (simp only [List.length_map, List.length_append, List.length_cons, List.length_nil]; omega) | decide) ?_; with_reducible conv => whnf)
  | (with_reducible refine q_le (by with_unfolding_all rfl) ?_; with_reducible conv => whnf)
  | (with_reducible refine q_and tyL_lst ?_; with_reducible conv => whnf)
  | (with_reducible refine q_and tyL_rol ?_; with_reducible conv => whnf)
  | (with_reducible refine q_and (tyL_ref (by walk_at "mu")) ?_; with_reducible conv => whnf)
  | (with_reducible refine q_and (tyD_ref (by walk_at "mu")) ?_; with_reducible conv => whnf)
  | (with_reducible refine q_and (rdD_ref (by walk_at "mu")) ?_; with_reducible conv => whnf)
  | (rw [pick_c0]; with_reducible conv => whnf)
  | (rw [pick_c1]; with_reducible conv => whnf)
  | (rw [pick_c2]; with_reducible conv => whnf)
  | (rw [pick_c3]; with_reducible conv => whnf)
  | (rw [pick_c4]; with_reducible conv => whnf)
  | (rw [pick_c5]; with_reducible conv => whnf)
  | (rw [mset_same]; with_reducible conv => whnf)
  | (rw [mset_ne (by assumption)]; with_reducible conv => whnf)
  | (rw [mset_ne]; rotate_left; (first | assumption | exact Ne.symm (by assumption)); with_reducible conv => whnf)
  | (rw [rdL_ref]; rotate_left; (focus (walk_at "mu"; done)); with_reducible conv => whnf)
  | (rw [rdL_refD]; rotate_left; (focus (walk_at "mu"; done)); with_reducible conv => whnf)
  | (rw [rdD_refD]; rotate_left; (focus (walk_at "mu"; done)); with_reducible conv => whnf)
  | (rw [rdM_ref]; rotate_left; (focus (walk_at "mu"; done)); with_reducible conv => whnf)
  | (rw [rdL_refK]; rotate_left; (focus (walk_at "mu"; done)); with_reducible conv => whnf)
  | (rw [rdD_refK]; rotate_left; (focus (walk_at "mu"; done)); with_reducible conv => whnf)
  | (rw [tyW_refL]; rotate_left; (focus (walk_at "mu"; done)); with_reducible conv => whnf)
  | (rw [tyW_refD]; rotate_left; (focus (walk_at "mu"; done)); with_reducible conv => whnf)
  | (rw [drf_ref]; rotate_left; (focus (walk_at "mu"; done)); with_reducible conv => whnf)
  | ((conv => (arg 2; tactic' => (walk_at "mu"; done))); with_reducible conv => whnf)
  | (with_reducible refine q_and (Eq.refl _) ?_; with_reducible conv => whnf)
  | (with_reducible refine q_and (MulO.r (by decide)) ?_; with_reducible conv => whnf)
  | (with_reducible refine q_and (MulO.l (by decide)) ?_; with_reducible conv => whnf)
  | (with_reducible refine q_and (MulO.r (by omega)) ?_; with_reducible conv => whnf)
  | (with_reducible refine q_and (MulO.l (by omega)) ?_; with_reducible conv => whnf)
  | (with_reducible refine q_pow (by decide) ?_; with_reducible conv => whnf)
  | (with_reducible refine q_nisT (by first | assumption | with_reducible rfl) ?_; with_reducible conv => whnf)
  | (with_reducible refine q_nisF (by first | assumption | with_reducible rfl) ?_; with_reducible conv => whnf)
  | (with_reducible refine q_eqI ?_; with_reducible conv => whnf)
  | (with_reducible refine q_eqS ?_; with_reducible conv => whnf)
  | (with_reducible refine q_eqB ?_; with_reducible conv => whnf)
  | (with_reducible refine q_neI ?_; with_reducible conv => whnf)
  | (with_reducible refine q_neS ?_; with_reducible conv => whnf)
  | (with_reducible refine q_neB ?_; with_reducible conv => whnf)
  | (with_reducible refine q_memc ?_; with_reducible conv => whnf)
  | (with_reducible refine q_lkn (by walk_at "lk") ?_; with_reducible conv => whnf)
  | (with_reducible refine q_tix (by walk_at "lk"; done) ?_; with_reducible conv => whnf)
  | (with_reducible refine q_tin ?_; with_reducible conv => whnf)
  | (rw [pf_hit]; with_reducible conv => whnf)
  | (rw [pf_skip]; rotate_left; (focus (decide +kernel; done)); with_reducible conv => whnf)
  | (rw [lk_hit]; with_reducible conv => whnf)
  | (rw [lk_skip1]; rotate_left; (focus (decide +kernel; done)); with_reducible conv => whnf))))
/-! operations on a table -/
abbrev It : Type := Tb Str Str
abbrev encI (it : It) : List (Key × W) := encT (fun k => (Sum.inr k : Key)) (fun _ v => W.str v) it
theorem encI_val (it : It) (k : Str) : valW (encI it) (Sum.inr k) = (getT it k).map W.str := encT_val inr_inj it k
theorem encI_put (it : It) (k v : Str) : putW (encI it) (Sum.inr k) (.str v) = encI (putT it k v) := encT_put (g := fun _ v => W.str v) inr_inj it k v
theorem encI_drop (it : It) (k : Str) : dropW (encI it) (Sum.inr k) = encI (dropT it k) := encT_drop inr_inj it k
theorem keys_encI (it : It) : (encI it).map (·.1) = (keysT it).map Sum.inr := by
  unfold encI encT keysT
  rw [List.map_map, List.map_map]
  rfl
inductive Op where
  | get (k : Str) | put (k v : Str) | drop (k : Str) | swap (k o n : Str) | page (b : Str) (m : Nat)
def Op.w : Op → W
  | .get k => .tup [.str "get", .str k]
  | .put k v => .tup [.str "put", .str k, .str v]
  | .drop k => .tup [.str "drop", .str k]
  | .swap k o n => .tup [.str "swap", .str k, .str o, .str n]
  | .page b m => .tup [.str "page", .str b, .int (m : Int)]
def Op.place : Op → Str
  | .get k | .put k _ | .drop k | .swap k _ _ | .page k _ => k
def valS (v : Str) : Bool := printB v && decide (v.length ≤ 40)
def Op.Ok : Op → Prop
  | .get k | .drop k => isKeyB k = true
  | .put k v => isKeyB k = true ∧ valS v = true
  | .swap k o n => isKeyB k = true ∧ valS o = true ∧ valS n = true
  | .page b m => (isKeyB b || decide (b = "")) = true ∧ 1 ≤ m ∧ m ≤ 50
def pgK (it : It) (b : Str) : List Str := So.sortS ((keysT it).filter fun k => !sLt k b)
def pairW (it : It) (k : Str) : W := .tup [.str k, .str ((getT it k).getD "")]
def noneW : W := .tup [.str "none"]
def doneW : W := .tup [.str "done"]
def nxtW (o : Option Str) (hi : W) : W := match o with
  | some k => .str k
  | none => hi
def ansIt (it : It) (hi : W) : Op → W
  | .get k => match getT it k with
    | none => noneW
    | some v => .tup [.str "value", .str v]
  | .put _ _ => doneW
  | .drop k => match getT it k with
    | none => noneW
    | some _ => doneW
  | .swap k o _ => match getT it k with
    | none => noneW
    | some v => if v = o then doneW else .tup [.str "other", .str v]
  | .page b m => .tup [.str "page", .tup (((pgK it b).take m).map (pairW it)), nxtW ((pgK it b)[m]?) hi]
def itOf (it : It) : Op → It
  | .put k v => putT it k v
  | .drop k => dropT it k
  | .swap k o n => if getT it k = some o then putT it k n else it
  | _ => it
theorem nd_itOf {it : It} (h : Nd it) (op : Op) : Nd (itOf it op) := by
  cases op with
  | get k => exact h
  | put k v => exact nd_put h k v
  | drop k => exact nd_drop h k
  | swap k o n =>
    show Nd (if getT it k = some o then putT it k n else it)
    split
    · exact nd_put h k n
    · exact h
  | page b m => exact h
theorem itOf_len (it : It) (op : Op) : (itOf it op).length ≤ it.length + 1 := by
  cases op with
  | get k => exact Nat.le_succ _
  | put k v => exact putT_len it k v
  | drop k => exact Nat.le_succ_of_le (dropT_len it k)
  | swap k o n =>
    show (if getT it k = some o then putT it k n else it).length ≤ _
    split
    · exact putT_len it k n
    · exact Nat.le_succ _
  | page b m => exact Nat.le_succ _
theorem op_get {k : Str} : Op.w (.get k) = .tup [.str "get", .str k] := rfl
theorem op_put {k v : Str} : Op.w (.put k v) = .tup [.str "put", .str k, .str v] := rfl
theorem op_drop {k : Str} : Op.w (.drop k) = .tup [.str "drop", .str k] := rfl
theorem op_swap {k o n : Str} : Op.w (.swap k o n) = .tup [.str "swap", .str k, .str o, .str n] := rfl
theorem op_page {b : Str} {m : Nat} : Op.w (.page b m) = .tup [.str "page", .str b, .int (m : Int)] := rfl
theorem ans_get {it : It} {hi : W} {k : Str} : ansIt it hi (.get k) = match getT it k with
    | none => noneW
    | some v => .tup [.str "value", .str v] := rfl
theorem ans_put {it : It} {hi : W} {k v : Str} : ansIt it hi (.put k v) = doneW := rfl
theorem ans_drop {it : It} {hi : W} {k : Str} : ansIt it hi (.drop k) = match getT it k with
    | none => noneW
    | some _ => doneW := rfl
theorem ans_swap {it : It} {hi : W} {k o n : Str} : ansIt it hi (.swap k o n) = match getT it k with
    | none => noneW
    | some v => if v = o then doneW else .tup [.str "other", .str v] := rfl
theorem ans_page {it : It} {hi : W} {b : Str} {m : Nat} : ansIt it hi (.page b m) = .tup [.str "page", .tup (((pgK it b).take m).map (pairW it)), nxtW ((pgK it b)[m]?) hi] := rfl
section
variable {i : Addr} {it : It} {hi : W} {μ : Mu} {P : Po} {X : Xo}
theorem self_dk {kvs : List (Key × W)} {w : W} (hi : μ i = some (.dk kvs)) (h : P w (mset μ i (.dk kvs))) : P w μ := by
  rw [mset_self hi] at h
  exact h
theorem sp__get {k : Str} (hm : μ i = some (.dk (encI it))) (h : P (ansIt it hi (.get k)) (mset μ i (.dk (encI (itOf it (.get k)))))) : f__get [.ref i, Op.w (.get k), hi] μ P X := by
  rw [f__get_eq]; unfold f__get_B fDef
  refine ⟨rfl, ?_⟩
  have h := self_dk hm h
  rw [ans_get] at h
  rw [op_get]
  have ev := encI_val it k
  cases eg : getT it k with
  | none =>
    rw [eg] at ev h
    walk_at "q"
    refine q_t (by rw [ev]; rfl) ?_
    walk_at "q"
    exact Rt.now h
  | some v =>
    rw [eg] at ev h
    have ev : valW (encI it) (Sum.inr k) = some (.str v) := ev
    walk_at "q"
    refine q_f (by rw [ev]; rfl) ?_
    walk_at "q"
    exact Rt.now h
theorem sp__put {k v : Str} (hm : μ i = some (.dk (encI it))) (hz : it.length < 10000000) (h : P (ansIt it hi (.put k v)) (mset μ i (.dk (encI (itOf it (.put k v)))))) : f__put [.ref i, Op.w (.put k v), hi] μ P X := by
  rw [f__put_eq]; unfold f__put_B fDef
  refine ⟨rfl, ?_⟩
  rw [ans_put] at h
  rw [op_put]
  walk_at "q"
  refine ⟨by rw [encT_len]; omega, ?_⟩
  rw [encI_put]
  walk_at "q"
  exact Rt.now h
theorem sp__drop {k : Str} (hm : μ i = some (.dk (encI it))) (h : P (ansIt it hi (.drop k)) (mset μ i (.dk (encI (itOf it (.drop k)))))) : f__drop [.ref i, Op.w (.drop k), hi] μ P X := by
  rw [f__drop_eq]; unfold f__drop_B fDef
  refine ⟨rfl, ?_⟩
  rw [ans_drop] at h
  rw [op_drop]
  have ev := encI_val it k
  cases eg : getT it k with
  | none =>
    have ed : dropT it k = it := by
      unfold dropT
      rw [List.filter_eq_self]
      intro x hx
      refine decide_eq_true fun z => ?_
      have := (mem_keysT it k).mp (List.mem_map.mpr ⟨x, hx, z⟩)
      rw [eg] at this
      cases this
    rw [eg] at ev h
    rw [show itOf it (.drop k) = it from ed] at h
    have h := self_dk hm h
    walk_at "q"
    refine q_t (by rw [ev]; rfl) ?_
    walk_at "q"
    exact Rt.now h
  | some v =>
    rw [eg] at ev h
    have ev : valW (encI it) (Sum.inr k) = some (.str v) := ev
    walk_at "q"
    refine q_f (by rw [ev]; rfl) ?_
    walk_at "q"
    rw [encI_drop]
    refine ⟨by rw [ev]; rfl, ?_⟩
    exact Rt.now h
theorem sp__swap {k o n : Str} (hm : μ i = some (.dk (encI it))) (hz : it.length < 10000000) (h : P (ansIt it hi (.swap k o n)) (mset μ i (.dk (encI (itOf it (.swap k o n)))))) : f__swap [.ref i, Op.w (.swap k o n), hi] μ P X := by
  rw [f__swap_eq]; unfold f__swap_B fDef
  refine ⟨rfl, ?_⟩
  rw [show itOf it (.swap k o n) = (if getT it k = some o then putT it k n else it) from rfl] at h
  rw [ans_swap] at h
  rw [op_swap]
  have ev := encI_val it k
  cases eg : getT it k with
  | none =>
    rw [eg] at ev h
    rw [if_neg (by simp)] at h
    have h := self_dk hm h
    walk_at "q"
    refine q_t (by rw [ev]; rfl) ?_
    walk_at "q"
    exact Rt.now h
  | some v =>
    rw [eg] at ev h
    have ev : valW (encI it) (Sum.inr k) = some (.str v) := ev
    simp only at h
    walk_at "q"
    refine q_f (by rw [ev]; rfl) ?_
    walk_at "q"
    by_cases c : v = o
    · subst c
      rw [if_pos rfl, if_pos rfl] at h
      walk_at "q"
      refine q_f (by simp) ?_
      walk_at "q"
      refine ⟨by rw [encT_len]; omega, ?_⟩
      rw [encI_put]
      walk_at "q"
      exact Rt.now h
    · rw [if_neg c, if_neg (fun z => c (Option.some.inj z))] at h
      have h := self_dk hm h
      refine q_t (by rw [decide_eq_false c]; rfl) ?_
      walk_at "q"
      exact Rt.now h
theorem sortS_len (ks : List Str) : (So.sortS ks).length = ks.length := (So.sortS_perm ks).length_eq
theorem pgK_mem {it : It} {b k : Str} : k ∈ pgK it b ↔ (getT it k).isSome = true ∧ sLt k b = false := by
  unfold pgK
  rw [(So.sortS_perm _).mem_iff, List.mem_filter, mem_keysT]
  cases sLt k b <;> simp
theorem pgK_len (it : It) (b : Str) : (pgK it b).length ≤ it.length := by
  unfold pgK
  rw [sortS_len]
  exact Nat.le_trans (List.length_filter_le _ _) (by rw [keysT_len]; exact Nat.le_refl _)
theorem cut_take {α : Type} (xs : List α) (m : Nat) : cutL xs none (some (m : Int)) = xs.take m := by
  unfold cutL
  rw [HT.sIx_none, HT.sIx_nat, List.drop_zero, Nat.sub_zero]
  by_cases c : m ≤ xs.length
  · rw [Nat.min_eq_left c]
  · rw [Nat.min_eq_right (by omega), List.take_of_length_le (Nat.le_refl _), List.take_of_length_le (by omega)]
theorem sp__page {b : Str} {m : Nat} (hm : μ i = some (.dk (encI it))) (hz : it.length < 1000000) (h : P (ansIt it hi (.page b m)) (mset μ i (.dk (encI (itOf it (.page b m)))))) : f__page [.ref i, Op.w (.page b m), hi] μ P X := by
  rw [f__page_eq]; unfold f__page_B fDef
  refine ⟨rfl, ?_⟩
  have h := self_dk hm h
  rw [ans_page] at h
  rw [op_page]
  have lk : (keysT it).length ≤ 16000000 := by rw [keysT_len]; omega
  have ek : (encI it).map (fun p => kW p.1) = (keysT it).map W.str := by
    unfold encI encT keysT
    rw [List.map_map, List.map_map]
    rfl
  walk_at "q"
  refine ⟨i, encI it, hm, ?_⟩
  walk_at "q"
  rw [ek]
  refine lcV_tm W.str W.str (fun k => !sLt k b) (keysT it) lk (by intros; trivial) (fun k hk μ' he N Y hn hy => ?_) ?_
  · walk_at "q"
    refine q_if (fun c => ?_) fun c => ?_
    · walk_at "q"
      exact hy c
    · walk_at "q"
      exact hn c
  refine ⟨mset_same, ?_⟩
  rw [mset_mset, mset_self hm]
  walk_at "q"
  refine ⟨(keysT it).filter fun k => !sLt k b, rfl, ?_⟩
  rw [show So.sortS ((keysT it).filter fun k => !sLt k b) = pgK it b from rfl]
  have lp := pgK_len it b
  walk_at "q"
  have ec : cutL ((pgK it b).map W.str) none (some (m : Int)) = ((pgK it b).take m).map W.str := by
    rw [cutL_map]
    rw [cut_take]
  rw [ec]
  refine lcV_m W.str (pairW it) ((pgK it b).take m) (Nat.le_trans (List.length_take_le' _ _) (by omega)) (fun _ _ => rfl) (fun k hk μ' he Y hy => ?_) ?_
  · have hm2 := he _ _ hm
    obtain ⟨v, ev⟩ := Option.isSome_iff_exists.mp (pgK_mem.mp (List.mem_of_mem_take hk)).1
    have e2 := encI_val it k
    rw [ev] at e2
    have e2 : valW (encI it) (Sum.inr k) = some (.str v) := e2
    unfold pairW at hy
    rw [ev] at hy
    walk_at "q"
    exact hy
  walk_at "q"
  rw [List.length_map]
  cases eg : (pgK it b)[m]? with
  | some k =>
    rw [eg] at h
    have hl : m < (pgK it b).length := (List.getElem?_eq_some_iff.mp eg).1
    refine q_t (decide_eq_true (by omega)) ?_
    have p1 : pick ((pgK it b).map W.str) (m : Int) = some (.str k) := pick_mapN eg
    walk_at "q"
    exact Rt.now h
  | none =>
    rw [eg] at h
    have hl := List.getElem?_eq_none_iff.mp eg
    refine q_f (decide_eq_false (by omega)) ?_
    walk_at "q"
    exact Rt.now h
theorem sp_apply {op : Op} (hm : μ i = some (.dk (encI it))) (hz : it.length < 1000000) (h : P (ansIt it hi op) (mset μ i (.dk (encI (itOf it op))))) : f_apply [.ref i, op.w, hi] μ P X := by
  rw [f_apply_eq]; unfold f_apply_B fDef
  refine ⟨rfl, ?_⟩
  cases op with
  | get k =>
    rw [op_get]
    walk_at "q"
    refine q_cl (f := f__get) (by walk_at "lk") ?_
    walk_at "q"
    rw [← op_get]
    exact sp__get hm (Rt.now h)
  | put k v =>
    rw [op_put]
    walk_at "q"
    refine q_cl (f := f__put) (by walk_at "lk") ?_
    walk_at "q"
    rw [← op_put]
    exact sp__put hm (by omega) (Rt.now h)
  | drop k =>
    rw [op_drop]
    walk_at "q"
    refine q_cl (f := f__drop) (by walk_at "lk") ?_
    walk_at "q"
    rw [← op_drop]
    exact sp__drop hm (Rt.now h)
  | swap k o n =>
    rw [op_swap]
    walk_at "q"
    refine q_cl (f := f__swap) (by walk_at "lk") ?_
    walk_at "q"
    rw [← op_swap]
    exact sp__swap hm (by omega) (Rt.now h)
  | page b m =>
    rw [op_page]
    walk_at "q"
    refine q_cl (f := f__page) (by walk_at "lk") ?_
    walk_at "q"
    rw [← op_page]
    exact sp__page hm hz (Rt.now h)
/-! operations are operations -/
theorem key_len {k : Str} (h : isKeyB k = true) : k.length ≤ 8 := by
  unfold isKeyB at h
  exact (of_decide_eq_true (Bool.and_eq_true_iff.mp h).1).2
theorem val_len {v : Str} (h : valS v = true) : v.length ≤ 40 := of_decide_eq_true (Bool.and_eq_true_iff.mp h).2
theorem op_ok {op : Op} (h : op.Ok) : opW op.w = true ∧ dp op.w = true := by
  have dz : ∀ z : Str, z.length ≤ 100 → dp (.str z) = true := fun z hz => by
    unfold dp
    exact decide_eq_true (by omega)
  have dn : dps [] = true := by unfold dps; rfl
  cases op with
  | get k =>
    have k1 : isKeyB k = true := h
    refine ⟨?_, ?_⟩
    · show ((decide (("get" : Str) = "get") || decide (("get" : Str) = "drop")) && isKeyB k) = true
      rw [k1]
      decide +kernel
    · rw [op_get]
      unfold dp dps dps
      rw [dz k (by have := key_len k1; omega), dz "get" (by decide +kernel), dn]
      rfl
  | drop k =>
    have k1 : isKeyB k = true := h
    refine ⟨?_, ?_⟩
    · show ((decide (("drop" : Str) = "get") || decide (("drop" : Str) = "drop")) && isKeyB k) = true
      rw [k1]
      decide +kernel
    · rw [op_drop]
      unfold dp dps dps
      rw [dz k (by have := key_len k1; omega), dz "drop" (by decide +kernel), dn]
      rfl
  | put k v =>
    obtain ⟨k1, v1⟩ : isKeyB k = true ∧ valS v = true := h
    refine ⟨?_, ?_⟩
    · show ((decide (("put" : Str) = "put") && (isKeyB k && valS v)) || (decide (("put" : Str) = "page") && (boundW (.str k) && intB (.str v) 1 50))) = true
      rw [k1, v1, show decide (("put" : Str) = "put") = true by decide +kernel]
      rfl
    · rw [op_put]
      unfold dp dps dps dps
      rw [dz k (by have := key_len k1; omega), dz v (by have := val_len v1; omega), dz "put" (by decide +kernel), dn]
      rfl
  | swap k o n =>
    obtain ⟨k1, o1, n1⟩ : isKeyB k = true ∧ valS o = true ∧ valS n = true := h
    refine ⟨?_, ?_⟩
    · show (decide (("swap" : Str) = "swap") && (isKeyB k && (valS o && valS n))) = true
      rw [k1, o1, n1]
      decide +kernel
    · rw [op_swap]
      unfold dp dps dps dps dps
      rw [dz k (by have := key_len k1; omega), dz o (by have := val_len o1; omega), dz n (by have := val_len n1; omega), dz "swap" (by decide +kernel), dn]
      rfl
  | page b m =>
    obtain ⟨b1, m1, m2⟩ : (isKeyB b || decide (b = "")) = true ∧ 1 ≤ m ∧ m ≤ 50 := h
    refine ⟨?_, ?_⟩
    · show ((decide (("page" : Str) = "put") && (keyW (.str b) && valB (.int m))) || (decide (("page" : Str) = "page") && ((isKeyB b || decide (b = "")) && (decide ((1 : Int) ≤ (m : Int)) && decide ((m : Int) ≤ 50))))) = true
      rw [b1, decide_eq_true (show (1 : Int) ≤ (m : Int) by omega), decide_eq_true (show (m : Int) ≤ 50 by omega), show decide (("page" : Str) = "put") = false by decide +kernel]
      simp
    · have lb : b.length ≤ 100 := by
        rcases Bool.or_eq_true_iff.mp b1 with z | z
        · have := key_len z
          omega
        · rw [of_decide_eq_true z]
          decide +kernel
      rw [op_page]
      unfold dp dps dps dps
      rw [dz b lb, dz "page" (by decide +kernel), dn]
      simp only [dp]
      rfl
theorem sp_placeO {op : Op} {μ : Mu} {P : Po} {X : Xo} (ho : op.Ok) (h : P (.str op.place) μ) : f_place [op.w] μ P X := by
  obtain ⟨o1, o2⟩ := op_ok ho
  rw [f_place_eq]; unfold f_place_B fDef
  refine ⟨rfl, ?_⟩
  walk_at "q"
  refine sp_op o2 ?_
  rw [o1]
  cases op with
  | get k =>
    rw [op_get]
    walk_at "q"
    exact Rt.now h
  | put k v =>
    rw [op_put]
    walk_at "q"
    exact Rt.now h
  | drop k =>
    rw [op_drop]
    walk_at "q"
    exact Rt.now h
  | swap k o n =>
    rw [op_swap]
    walk_at "q"
    exact Rt.now h
  | page b m =>
    rw [op_page]
    walk_at "q"
    exact Rt.now h
end
end Q
namespace Q
open PySem L2
local macro_rules | `(tactic| walk_at "mu") => `(tactic| (repeat (first | exact mset_same | assumption | (rw [mset_ne]; rotate_left; (first | assumption | exact Ne.symm (by assumption))))))
local macro_rules | `(tactic| walk_at "lk") => `(tactic| (repeat (first | exact lk_hit | exact lk_nil | refine lk_skip (by decide +kernel) ?_)))
local macro_rules | `(tactic| walk_at "pf") => `(tactic| (repeat (first | rw [pf_nil] | rw [pf_hit] | (rw [pf_skip]; rotate_left; (focus (decide +kernel; done))))))
local macro_rules | `(tactic| walk_at "q") => `(tactic| ((with_reducible conv => whnf); repeat (first
  | (with_reducible refine q_t (by assumption) ?_; with_reducible conv => whnf)
  | (with_reducible refine q_f (by assumption) ?_; with_reducible conv => whnf)
  | (with_reducible refine q_t (by with_reducible rfl) ?_; with_reducible conv => whnf)
  | (with_reducible refine q_f (by with_reducible rfl) ?_; with_reducible conv => whnf)
  | (with_reducible refine q_t (by decide) ?_; with_reducible conv => whnf)
  | (with_reducible refine q_f (by decide) ?_; with_reducible conv => whnf)
  | (with_reducible refine q_t (decide_eq_true (by omega)) ?_; with_reducible conv => whnf)
  | (with_reducible refine q_f (decide_eq_false (by omega)) ?_; with_reducible conv => whnf)
  | (with_reducible refine q_f (q_nn (by omega)) ?_; with_reducible conv => whnf)
  | (with_reducible refine q_t (q_nt (by omega)) ?_; with_reducible conv => whnf)
  | (with_reducible refine q_len (by with_unfolding_all rfl) ?_; with_reducible conv => whnf)
  | (with_reducible refine q_leq (by with_unfolding_all rfl) ?_; with_reducible conv => whnf)
  | (with_reducible refine q_and (by first | assumption | exact True.intro | omega | (simp only [List.length_map, List.length_append, List.length_cons, List.length_nil]; omega) | decide) ?_; with_reducible conv => whnf)
  | (with_reducible refine q_le (by with_unfolding_all rfl) ?_; with_reducible conv => whnf)
  | (with_reducible refine q_and tyL_lst ?_; with_reducible conv => whnf)
  | (with_reducible refine q_and tyL_rol ?_; with_reducible conv => whnf)
  | (with_reducible refine q_and (tyL_ref (by walk_at "mu")) ?_; with_reducible conv => whnf)
  | (with_reducible refine q_and (tyD_ref (by walk_at "mu")) ?_; with_reducible conv => whnf)
  | (with_reducible refine q_and (rdD_ref (by walk_at "mu")) ?_; with_reducible conv => whnf)
  | (rw [pick_c0]; with_reducible conv => whnf)
  | (rw [pick_c1]; with_reducible conv => whnf)
  | (rw [pick_c2]; with_reducible conv => whnf)
  | (rw [pick_c3]; with_reducible conv => whnf)
  | (rw [pick_c4]; with_reducible conv => whnf)
  | (rw [pick_c5]; with_reducible conv => whnf)
  | (rw [mset_same]; with_reducible conv => whnf)
  | (rw [mset_ne (by assumption)]; with_reducible conv => whnf)
  | (rw [mset_ne]; rotate_left; (first | assumption | exact Ne.symm (by assumption)); with_reducible conv => whnf)
  | (rw [rdL_ref]; rotate_left; (focus (walk_at "mu"; done)); with_reducible conv => whnf)
  | (rw [rdL_refD]; rotate_left; (focus (walk_at "mu"; done)); with_reducible conv => whnf)
  | (rw [rdD_refD]; rotate_left; (focus (walk_at "mu"; done)); with_reducible conv => whnf)
  | (rw [rdM_ref]; rotate_left; (focus (walk_at "mu"; done)); with_reducible conv => whnf)
  | (rw [rdL_refK]; rotate_left; (focus (walk_at "mu"; done)); with_reducible conv => whnf)
  | (rw [rdD_refK]; rotate_left; (focus (walk_at "mu"; done)); with_reducible conv => whnf)
  | (rw [tyW_refL]; rotate_left; (focus (walk_at "mu"; done)); with_reducible conv => whnf)
  | (rw [tyW_refD]; rotate_left; (focus (walk_at "mu"; done)); with_reducible conv => whnf)
  | (rw [drf_ref]; rotate_left; (focus (walk_at "mu"; done)); with_reducible conv => whnf)
  | ((conv => (arg 2; tactic' => (walk_at "mu"; done))); with_reducible conv => whnf)
  | (with_reducible refine q_and (Eq.refl _) ?_; with_reducible conv => whnf)
  | (with_reducible refine q_and (MulO.r (by decide)) ?_; with_reducible conv => whnf)
  | (with_reducible refine q_and (MulO.l (by decide)) ?_; with_reducible conv => whnf)
  | (with_reducible refine q_and (MulO.r (by omega)) ?_; with_reducible conv => whnf)
  | (with_reducible refine q_and (MulO.l (by omega)) ?_; with_reducible conv => whnf)
  | (with_reducible refine q_pow (by decide) ?_; with_reducible conv => whnf)
  | (with_reducible refine q_nisT (by first | assumption | with_reducible rfl) ?_; with_reducible conv => whnf)
  | (with_reducible refine q_nisF (by first | assumption | with_reducible rfl) ?_; with_reducible conv => whnf)
  | (with_reducible refine q_eqI ?_; with_reducible conv => whnf)
  | (with_reducible refine q_eqS ?_; with_reducible conv => whnf)
  | (with_reducible refine q_eqB ?_; with_reducible conv => whnf)
  | (with_reducible refine q_neI ?_; with_reducible conv => whnf)
  | (with_reducible refine q_neS ?_; with_reducible conv => whnf)
  | (with_reducible refine q_neB ?_; with_reducible conv => whnf)
  | (with_reducible refine q_memc ?_; with_reducible conv => whnf)
  | (with_reducible refine q_lkn (by walk_at "lk") ?_; with_reducible conv => whnf)
  | (with_reducible refine q_tix (by walk_at "lk"; done) ?_; with_reducible conv => whnf)
  | (with_reducible refine q_tin ?_; with_reducible conv => whnf)
  | (rw [pf_hit]; with_reducible conv => whnf)
  | (rw [pf_skip]; rotate_left; (focus (decide +kernel; done)); with_reducible conv => whnf)
  | (rw [lk_hit]; with_reducible conv => whnf)
  | (rw [lk_skip1]; rotate_left; (focus (decide +kernel; done)); with_reducible conv => whnf))))
/-! shards: at s, their items at i, their sessions at e and l -/
structure Sa where
  s : Addr
  i : Addr
  e : Addr
  l : Addr
structure Sh where
  lo : Str
  hi : Option Str
  ep : Int
  it : It
  ss : Ss
@[reducible] def shO (lo : Str) (hi : Option Str) (ep : Int) (i e : Addr) : O := .ins "Shard" [("low", .str lo), ("high", oS hi), ("epoch", .int ep), ("_items", .ref i), ("_sessions", .ref e)]
structure ShAt (μ : Mu) (a : Sa) (h : Sh) : Prop where
  s : μ a.s = some (shO h.lo h.hi h.ep a.i a.e)
  i : μ a.i = some (.dk (encI h.it))
  e : μ a.e = some (sesO a.l)
  l : μ a.l = some (.dk (encS h.ss))
  il : a.i ≠ a.l
theorem ne_old {μ : Mu} {x p : Addr} {u : O} (hx : μ x = some u) (hp : μ p = none) : x ≠ p := fun e => by
  rw [e, hp] at hx
  cases hx
theorem ne_dif {μ : Mu} {x y : Addr} {u v : O} (hx : μ x = some u) (hy : μ y = some v) (h : u ≠ v) : x ≠ y := fun e => by
  rw [e, hy] at hx
  exact h (Option.some.inj hx).symm
theorem ShAt.new {μ : Mu} {a : Sa} {h : Sh} (g : ShAt μ a h) {p : Addr} {u : O} (hp : μ p = none) : ShAt (mset μ p u) a h where
  s := by rw [mset_ne (ne_old g.s hp), g.s]
  i := by rw [mset_ne (ne_old g.i hp), g.i]
  e := by rw [mset_ne (ne_old g.e hp), g.e]
  l := by rw [mset_ne (ne_old g.l hp), g.l]
  il := g.il
/-- the items and the last requests change -/
theorem ShAt.upd {μ : Mu} {a : Sa} {h : Sh} (g : ShAt μ a h) (it : It) (ss : Ss) : ShAt (mset (mset μ a.i (.dk (encI it))) a.l (.dk (encS ss))) a { h with it := it, ss := ss } where
  s := by rw [mset_ne (ne_dif g.s g.l (by intro z; cases z)), mset_ne (ne_dif g.s g.i (by intro z; cases z)), g.s]
  i := by rw [mset_ne g.il, mset_same]
  e := by rw [mset_ne (ne_dif g.e g.l (by intro z; cases z)), mset_ne (ne_dif g.e g.i (by intro z; cases z)), g.e]
  l := mset_same
  il := g.il
def hasK (lo : Str) (hi : Option Str) (z : Str) : Bool := !sLt z lo && belowB z hi
theorem sp_contK {lo z : Str} {hi : Option Str} {μ : Mu} {P : Po} {X : Xo} (h : P (.bl (hasK lo hi z)) μ) : f_contains [.str lo, oS hi, .str z] μ P X := by
  rw [f_contains_eq]; unfold f_contains_B fDef
  refine ⟨rfl, ?_⟩
  unfold hasK at h
  walk_at "q"
  refine q_if (fun c => ?_) fun c => ?_
  · rw [c, Bool.true_and] at h
    walk_at "q"
    refine sp_below ?_
    exact Rt.now h
  · rw [c, Bool.false_and] at h
    exact Rt.now h
def rngB (lo : Str) (hi : Option Str) : Bool := rangeW (.str lo) (oS hi)
def epB (ep : Int) : Bool := decide (1 ≤ ep) && decide (ep ≤ 1000000000000)
section
variable {μ : Mu} {P : Po} {X : Xo} {a : Sa} {h : Sh}
theorem pl_oS {hi : Option Str} (h : ∀ y, hi = some y → y.length ≤ 16000000) : pl (oS hi) = true := by
  cases hi with
  | none => rfl
  | some y => exact decide_eq_true (h y rfl)
theorem rng_len {lo : Str} {hi : Option Str} (h : rngB lo hi = true) : lo.length ≤ 8 ∧ ∀ y, hi = some y → y.length ≤ 8 := by
  unfold rngB rangeW at h
  obtain ⟨h1, h2⟩ := Bool.and_eq_true_iff.mp h
  refine ⟨?_, fun y hy => ?_⟩
  · have h1 : (isKeyB lo || decide (lo = "")) = true := h1
    rcases Bool.or_eq_true_iff.mp h1 with z | z
    · exact key_len z
    · rw [of_decide_eq_true z]
      decide +kernel
  · subst hy
    exact key_len (Bool.and_eq_true_iff.mp h2).1
theorem sp_ShInit {s : Addr} {lo : Str} {hi : Option Str} {ep : Int} (hr : rngB lo hi = true) (he : epB ep = true) (hs : μ s = none)
    (k : ∀ i e l, i ≠ s → e ≠ s → l ≠ s → e ≠ i → l ≠ i → l ≠ e → μ i = none → μ e = none → μ l = none → P .non (mset (mset (mset (mset μ i (.dk [])) l (.dk [])) e (sesO l)) s (shO lo hi ep i e))) :
    f_Shard___init__ [.ref s, .str lo, oS hi, .int ep] (mset μ s (.ins "Shard" [])) P X := by
  rw [f_Shard___init___eq]; unfold f_Shard___init___B fDef
  refine ⟨rfl, ?_⟩
  obtain ⟨l1, l2⟩ := rng_len hr
  walk_at "q"
  refine sp_is_range (decide_eq_true (by omega)) (pl_oS fun y hy => by have := l2 y hy; omega) ?_
  rw [show rangeW (.str lo) (oS hi) = true from hr]
  walk_at "q"
  refine sp_is_integer ?_
  rw [show (decide (1 ≤ ep) && decide (ep ≤ 1000000000000)) = true from he]
  walk_at "q"
  walk_at "pf"
  walk_at "q"
  walk_at "pf"
  walk_at "q"
  walk_at "pf"
  walk_at "q"
  intro i hi'
  obtain ⟨n1, hi'⟩ := new_ne hi'
  obtain ⟨_, hi'⟩ := new_ne hi'
  obtain ⟨_, hi'⟩ := new_ne hi'
  obtain ⟨_, hi'⟩ := new_ne hi'
  walk_at "q"
  walk_at "pf"
  walk_at "q"
  intro e he'
  obtain ⟨m1, he'⟩ := new_ne he'
  obtain ⟨m2, he'⟩ := new_ne he'
  obtain ⟨_, he'⟩ := new_ne he'
  obtain ⟨_, he'⟩ := new_ne he'
  obtain ⟨_, he'⟩ := new_ne he'
  obtain ⟨_, he'⟩ := new_ne he'
  refine sp_Sinit fun l o1 hl' => ?_
  obtain ⟨o2, hl'⟩ := new_ne hl'
  obtain ⟨o3, hl'⟩ := new_ne hl'
  obtain ⟨_, hl'⟩ := new_ne hl'
  obtain ⟨_, hl'⟩ := new_ne hl'
  obtain ⟨_, hl'⟩ := new_ne hl'
  obtain ⟨_, hl'⟩ := new_ne hl'
  walk_at "q"
  walk_at "pf"
  refine Rt.now ?_
  have g := k i e l n1 m1 o2 m2 o3 o1 hi' he' hl'
  refine cast ?_ g
  congr 1
  funext b
  unfold mset shO sesO
  by_cases b1 : b = s
  · simp [b1]
  · by_cases b2 : b = i
    · subst b2
      simp [b1, Ne.symm m2, Ne.symm o3]
    · by_cases b3 : b = e
      · subst b3
        simp [b1, b2]
      · by_cases b4 : b = l <;> simp [b1, b2, b3, b4]
theorem sp_ShHas {z : Str} (g : ShAt μ a h) (k : P (.bl (hasK h.lo h.hi z)) μ) : f_Shard_has [.ref a.s, .str z] μ P X := by
  rw [f_Shard_has_eq]; unfold f_Shard_has_B fDef
  refine ⟨rfl, ?_⟩
  have gs := g.s
  unfold shO at gs
  walk_at "q"
  refine sp_contK ?_
  exact Rt.now k
theorem sp_ShStatus {c n : Int} (g : ShAt μ a h) (k : P (.str (statS h.ss c n)) μ) : f_Shard_status [.ref a.s, .int c, .int n] μ P X := by
  rw [f_Shard_status_eq]; unfold f_Shard_status_B fDef
  refine ⟨rfl, ?_⟩
  have gs := g.s
  have ge := g.e
  unfold shO at gs
  walk_at "q"
  refine sp_Sstatus g.e g.l ?_
  exact Rt.now k
theorem sp_ShAnswer {c : Int} {x : Int × W} (g : ShAt μ a h) (hx : getT h.ss c = some x) (k : P x.2 μ) : f_Shard_answer [.ref a.s, .int c] μ P X := by
  rw [f_Shard_answer_eq]; unfold f_Shard_answer_B fDef
  refine ⟨rfl, ?_⟩
  have gs := g.s
  have ge := g.e
  unfold shO at gs
  walk_at "q"
  refine sp_Sanswer g.e g.l (fun y hy => ?_) fun z => by rw [hx] at z; cases z
  rw [hx] at hy
  cases hy
  exact Rt.now k
theorem sp_within {op : Op} {lo : Str} {hi : Option Str} (ho : op.Ok) (k : P (.bl (hasK lo hi op.place)) μ) : f_is_within [op.w, .str lo, oS hi] μ P X := by
  rw [f_is_within_eq]; unfold f_is_within_B fDef
  refine ⟨rfl, ?_⟩
  walk_at "q"
  refine sp_placeO ho ?_
  walk_at "q"
  refine sp_contK ?_
  exact Rt.now k
theorem stat_cases (ss : Ss) (c n : Int) : statS ss c n = "new" ∨ (statS ss c n = "stale" ∧ ∃ x, getT ss c = some x ∧ n < x.1) ∨ (statS ss c n = "again" ∧ ∃ x, getT ss c = some x ∧ n = x.1) := by
  unfold statS
  cases e : getT ss c with
  | none => exact .inl rfl
  | some x =>
    simp only
    by_cases c1 : n = x.1
    · rw [if_pos c1]
      exact .inr (.inr ⟨rfl, x, rfl, c1⟩)
    · rw [if_neg c1]
      by_cases c2 : x.1 < n
      · rw [if_pos c2]
        exact .inl rfl
      · rw [if_neg c2]
        exact .inr (.inl ⟨rfl, x, rfl, by omega⟩)
theorem sp_ShServe {c n : Int} {op : Op} (g : ShAt μ a h) (ho : op.Ok) (hz : h.it.length < 1000000) (hz2 : h.ss.length < 1000000) (hx : hasK h.lo h.hi op.place = false → X "BadShard" [] μ)
    (k1 : hasK h.lo h.hi op.place = true → statS h.ss c n = "new" → P (.tup [.str "new", ansIt h.it (oS h.hi) op]) (mset (mset μ a.i (.dk (encI (itOf h.it op)))) a.l (.dk (encS (putT h.ss c (n, ansIt h.it (oS h.hi) op))))))
    (k2 : hasK h.lo h.hi op.place = true → ∀ x, getT h.ss c = some x → n = x.1 → P (.tup [.str "again", x.2]) μ)
    (k3 : hasK h.lo h.hi op.place = true → ∀ x, getT h.ss c = some x → n < x.1 → P (.tup [.str "stale"]) μ) : f_Shard_serve [.ref a.s, .int c, .int n, op.w] μ P X := by
  rw [f_Shard_serve_eq]; unfold f_Shard_serve_B fDef
  refine ⟨rfl, ?_⟩
  have gs := g.s
  have ge := g.e
  have gi := g.i
  unfold shO at gs
  walk_at "q"
  refine sp_within ho ?_
  cases ch : hasK h.lo h.hi op.place with
  | false =>
    walk_at "q"
    exact ⟨μ, Sub.refl μ, hx ch⟩
  | true =>
    walk_at "q"
    refine sp_ShStatus g ?_
    rcases stat_cases h.ss c n with e | ⟨e, x, ex, lt⟩ | ⟨e, x, ex, eq⟩
    · rw [e]
      walk_at "q"
      refine q_go ?_
      walk_at "q"
      refine sp_apply g.i hz ?_
      have ge2 : mset μ a.i (.dk (encI (itOf h.it op))) a.e = some (sesO a.l) := by rw [mset_ne (ne_dif g.e g.i (by intro z; cases z)), g.e]
      have gl2 : mset μ a.i (.dk (encI (itOf h.it op))) a.l = some (.dk (encS h.ss)) := by rw [mset_ne (Ne.symm g.il), g.l]
      walk_at "q"
      refine sp_Sremember ge2 gl2 (by omega) (fun _ => ?_) fun z => absurd e z
      have g2 := g.upd (itOf h.it op) (putT h.ss c (n, ansIt h.it (oS h.hi) op))
      have gs2 : mset (mset μ a.i (.dk (encI (itOf h.it op)))) a.l (.dk (encS (putT h.ss c (n, ansIt h.it (oS h.hi) op)))) a.s = some (.ins "Shard" [("low", .str h.lo), ("high", oS h.hi), ("epoch", .int h.ep), ("_items", .ref a.i), ("_sessions", .ref a.e)]) := g2.s
      walk_at "q"
      refine sp_ShAnswer g2 (x := (n, ansIt h.it (oS h.hi) op)) (by rw [getT_put, if_pos rfl]) ?_
      walk_at "q"
      exact Rt.now (k1 ch e)
    · rw [e]
      walk_at "q"
      exact Rt.now (k3 ch x ex lt)
    · rw [e]
      walk_at "q"
      refine q_go ?_
      walk_at "q"
      refine sp_ShAnswer g ex ?_
      walk_at "q"
      exact Rt.now (k2 ch x ex eq)
def conI (it : It) : List W := (So.sortS (keysT it)).map (pairW it)
def conW (h : Sh) : W := .tup [.tup (conI h.it), .tup (rowsS h.ss)]
theorem srt_memS (it : It) (k : Str) : k ∈ So.sortS (keysT it) ↔ (getT it k).isSome = true := by
  rw [(So.sortS_perm _).mem_iff, mem_keysT]
theorem sp_ShContent (g : ShAt μ a h) (hz : h.it.length < 1000000) (hz2 : h.ss.length < 64) (k : P (conW h) μ) : f_Shard_content [.ref a.s] μ P X := by
  rw [f_Shard_content_eq]; unfold f_Shard_content_B fDef
  refine ⟨rfl, ?_⟩
  have gs := g.s
  have ge := g.e
  have gi := g.i
  unfold shO at gs
  walk_at "q"
  refine ⟨keysT h.it, keys_encI h.it, ?_⟩
  have lz : (So.sortS (keysT h.it)).length ≤ 16000000 := by rw [sortS_len, keysT_len]; omega
  walk_at "q"
  refine lcV_m W.str (pairW h.it) (So.sortS (keysT h.it)) lz (fun _ _ => rfl) (fun k hk μ' hx Y hy => ?_) ?_
  · have gs2 := hx _ _ gs
    have gi2 := hx _ _ gi
    obtain ⟨v, ev⟩ := Option.isSome_iff_exists.mp ((srt_memS h.it k).mp hk)
    have e2 := encI_val h.it k
    rw [ev] at e2
    have e2 : valW (encI h.it) (Sum.inr k) = some (.str v) := e2
    unfold pairW at hy
    rw [ev] at hy
    walk_at "q"
    exact hy
  walk_at "q"
  refine sp_Srows g.e g.l hz2 ?_
  walk_at "q"
  exact Rt.now k
end
/-! new shards -/
structure ShNew (μ μ' : Mu) (b : Sa) (h : Sh) : Prop where
  x : Ext μ μ'
  a : ShAt μ' b h
  i : μ b.i = none
  l : μ b.l = none
theorem ShAt.ext {μ μ' : Mu} {a : Sa} {h : Sh} (g : ShAt μ a h) (x : Ext μ μ') : ShAt μ' a h := ⟨x _ _ g.s, x _ _ g.i, x _ _ g.e, x _ _ g.l, g.il⟩
theorem Ext.tr {μ μ1 μ2 : Mu} (a : Ext μ μ1) (b : Ext μ1 μ2) : Ext μ μ2 := fun x o h => b x o (a x o h)
section
variable {μ : Mu} {P : Po} {X : Xo} {a : Sa} {h : Sh}
/-- what is put together key by key -/
theorem puts_app : ∀ (l acc : List (Key × W)), (acc ++ l).map (·.1) |>.Nodup → putsW acc l = acc ++ l
  | [], acc, _ => by rw [List.append_nil]; rfl
  | (k, z) :: r, acc, hn => by
    have hk : ¬(acc.any fun kv => decide (kv.1 = k)) = true := by
      intro c
      obtain ⟨kv, h1, h2⟩ := List.any_eq_true.mp c
      rw [List.map_append, List.nodup_append] at hn
      exact hn.2.2 kv.1 (List.mem_map.mpr ⟨kv, h1, rfl⟩) k (by simp) (of_decide_eq_true h2)
    show putsW (putW acc k z) r = _
    unfold putW
    rw [if_neg hk, puts_app r (acc ++ [(k, z)]) (by rw [List.append_assoc]; exact hn), List.append_assoc]
    rfl
end
end Q
namespace Q
open PySem L2
local macro_rules | `(tactic| walk_at "mu") => `(tactic| (repeat (first | exact mset_same | assumption | (rw [mset_ne]; rotate_left; (first | assumption | exact Ne.symm (by assumption))))))
local macro_rules | `(tactic| walk_at "lk") => `(tactic| (repeat (first | exact lk_hit | exact lk_nil | refine lk_skip (by decide +kernel) ?_)))
local macro_rules | `(tactic| walk_at "pf") => `(tactic| (repeat (first | rw [pf_nil] | rw [pf_hit] | (rw [pf_skip]; rotate_left; (focus (decide +kernel; done))))))
local macro_rules | `(tactic| walk_at "q") => `(tactic| ((with_reducible conv => whnf); repeat (first
  | (with_reducible refine q_t (by assumption) ?_; with_reducible conv => whnf)
  | (with_reducible refine q_f (by assumption) ?_; with_reducible conv => whnf)
  | (with_reducible refine q_t (by with_reducible rfl) ?_; with_reducible conv => whnf)
  | (with_reducible refine q_f (by with_reducible rfl) ?_; with_reducible conv => whnf)
  | (with_reducible refine q_t (by decide) ?_; with_reducible conv => whnf)
  | (with_reducible refine q_f (by decide) ?_; with_reducible conv => whnf)
  | (with_reducible refine q_t (decide_eq_true (by omega)) ?_; with_reducible conv => whnf)
  | (with_reducible refine q_f (decide_eq_false (by omega)) ?_; with_reducible conv => whnf)
  | (with_reducible refine q_f (q_nn (by omega)) ?_; with_reducible conv => whnf)
  | (with_reducible refine q_t (q_nt (by omega)) ?_; with_reducible conv => whnf)
  | (with_reducible refine q_len (by with_unfolding_all rfl) ?_; with_reducible conv => whnf)
  | (with_reducible refine q_leq (by with_unfolding_all rfl) ?_; with_reducible conv => whnf)
  | (with_reducible refine q_and (by first | assumption | exact True.intro | omega | (simp only [List.length_map, List.length_append, List.length_cons, List.length_nil]; omega) | decide) ?_; with_reducible conv => whnf)
  | (with_reducible refine q_le (by with_unfolding_all rfl) ?_; with_reducible conv => whnf)
  | (with_reducible refine q_and tyL_lst ?_; with_reducible conv => whnf)
  | (with_reducible refine q_and tyL_rol ?_; with_reducible conv => whnf)
  | (with_reducible refine q_and (tyL_ref (by walk_at "mu")) ?_; with_reducible conv => whnf)
  | (with_reducible refine q_and (tyD_ref (by walk_at "mu")) ?_; with_reducible conv => whnf)
  | (with_reducible refine q_and (rdD_ref (by walk_at "mu")) ?_; with_reducible conv => whnf)
  | (rw [pick_c0]; with_reducible conv => whnf)
  | (rw [pick_c1]; with_reducible conv => whnf)
  | (rw [pick_c2]; with_reducible conv => whnf)
  | (rw [pick_c3]; with_reducible conv => whnf)
  | (rw [pick_c4]; with_reducible conv => whnf)
  | (rw [pick_c5]; with_reducible conv => whnf)
  | (rw [mset_same]; with_reducible conv => whnf)
  | (rw [mset_ne (by assumption)]; with_reducible conv => whnf)
  | (rw [mset_ne]; rotate_left; (first | assumption | exact Ne.symm (by assumption)); with_reducible conv => whnf)
  | (rw [rdL_ref]; rotate_left; (focus (walk_at "mu"; done)); with_reducible conv => whnf)
  | (rw [rdL_refD]; rotate_left; (focus (walk_at "mu"; done)); with_reducible conv => whnf)
  | (rw [rdD_refD]; rotate_left; (focus (walk_at "mu"; done)); with_reducible conv => whnf)
  | (rw [rdM_ref]; rotate_left; (focus (walk_at "mu"; done)); with_reducible conv => whnf)
  | (rw [rdL_refK]; rotate_left; (focus (walk_at "mu"; done)); with_reducible conv => whnf)
  | (rw [rdD_refK]; rotate_left; (focus (walk_at "mu"; done)); with_reducible conv => whnf)
  | (rw [tyW_refL]; rotate_left; (focus (walk_at "mu"; done)); with_reducible conv => whnf)
  | (rw [tyW_refD]; rotate_left; (focus (walk_at "mu"; done)); with_reducible conv => whnf)
  | (rw [drf_ref]; rotate_left; (focus (walk_at "mu"; done)); with_reducible conv => whnf)
  | ((conv => (arg 2; tactic' => (walk_at "mu"; done))); with_reducible conv => whnf)
  | (with_reducible refine q_and (Eq.refl _) ?_; with_reducible conv => whnf)
  | (with_reducible refine q_and (MulO.r (by decide)) ?_; with_reducible conv => whnf)
  | (with_reducible refine q_and (MulO.l (by decide)) ?_; with_reducible conv => whnf)
  | (with_reducible refine q_and (MulO.r (by omega)) ?_; with_reducible conv => whnf)
  | (with_reducible refine q_and (MulO.l (by omega)) ?_; with_reducible conv => whnf)
  | (with_reducible refine q_pow (by decide) ?_; with_reducible conv => whnf)
  | (with_reducible refine q_nisT (by first | assumption | with_reducible rfl) ?_; with_reducible conv => whnf)
  | (with_reducible refine q_nisF (by first | assumption | with_reducible rfl) ?_; with_reducible conv => whnf)
  | (with_reducible refine q_eqI ?_; with_reducible conv => whnf)
  | (with_reducible refine q_eqS ?_; with_reducible conv => whnf)
  | (with_reducible refine q_eqB ?_; with_reducible conv => whnf)
  | (with_reducible refine q_neI ?_; with_reducible conv => whnf)
  | (with_reducible refine q_neS ?_; with_reducible conv => whnf)
  | (with_reducible refine q_neB ?_; with_reducible conv => whnf)
  | (with_reducible refine q_memc ?_; with_reducible conv => whnf)
  | (with_reducible refine q_lkn (by walk_at "lk") ?_; with_reducible conv => whnf)
  | (with_reducible refine q_tix (by walk_at "lk"; done) ?_; with_reducible conv => whnf)
  | (with_reducible refine q_tin ?_; with_reducible conv => whnf)
  | (rw [pf_hit]; with_reducible conv => whnf)
  | (rw [pf_skip]; rotate_left; (focus (decide +kernel; done)); with_reducible conv => whnf)
  | (rw [lk_hit]; with_reducible conv => whnf)
  | (rw [lk_skip1]; rotate_left; (focus (decide +kernel; done)); with_reducible conv => whnf))))
/-! shards that cover all keys: the mathematics -/
theorem le_antis {x y : Str} (h1 : sLt x y = false) (h2 : sLt y x = false) : x = y := by
  rcases So.sLt_tri x y with h | h | h
  · rw [h1] at h; cases h
  · exact h
  · rw [h2] at h; cases h
theorem lt_of_nlt {x y z : Str} (h1 : sLt y x = false) (h2 : sLt y z = true) : sLt x z = true := by
  rcases So.sLt_tri x y with h | h | h
  · exact So.sLt_tr h h2
  · rw [h]; exact h2
  · rw [h1] at h; cases h
theorem nlt_of_lt {x y z : Str} (h1 : sLt x y = true) (h2 : sLt z y = false) : sLt z x = false := by
  cases h : sLt z x with
  | false => rfl
  | true => rw [So.sLt_tr h h1] at h2; cases h2
theorem nlt_tr {x y z : Str} (h1 : sLt y x = false) (h2 : sLt z y = false) : sLt z x = false := by
  cases h : sLt z x with
  | false => rfl
  | true =>
    have := lt_of_nlt h2 h
    rw [this] at h1
    cases h1
theorem belowB_some {z y : Str} : belowB z (some y) = sLt z y := rfl
theorem belowB_none {z : Str} : belowB z none = true := rfl
theorem hasK_iff {lo z : Str} {hi : Option Str} : hasK lo hi z = true ↔ sLt z lo = false ∧ ∀ y, hi = some y → sLt z y = true := by
  unfold hasK
  cases hi with
  | none => 
    rw [belowB_none, Bool.and_true]
    constructor
    · intro h
      exact ⟨by simpa using h, fun y hy => by cases hy⟩
    · intro h
      rw [h.1]
      rfl
  | some y =>
    rw [belowB_some]
    constructor
    · intro h
      obtain ⟨h1, h2⟩ := Bool.and_eq_true_iff.mp h
      exact ⟨by simpa using h1, fun y' hy => by cases hy; exact h2⟩
    · intro h
      rw [h.1, h.2 y rfl]
      rfl
theorem rng_lt {lo y : Str} (h : rngB lo (some y) = true) : sLt lo y = true ∧ isKeyB y = true := by
  unfold rngB rangeW at h
  have h2 : (isKeyB y && sLt lo y) = true := (Bool.and_eq_true_iff.mp h).2
  exact ⟨(Bool.and_eq_true_iff.mp h2).2, (Bool.and_eq_true_iff.mp h2).1⟩
theorem rng_low {lo : Str} {hi : Option Str} (h : rngB lo hi = true) : (isKeyB lo || decide (lo = "")) = true := (Bool.and_eq_true_iff.mp h).1
theorem rng_mk {lo : Str} {hi : Option Str} (h1 : (isKeyB lo || decide (lo = "")) = true) (h2 : ∀ y, hi = some y → isKeyB y = true ∧ sLt lo y = true) : rngB lo hi = true := by
  unfold rngB rangeW
  rw [show boundW (.str lo) = true from h1, Bool.true_and]
  cases hi with
  | none => rfl
  | some y =>
    show (isKeyB y && sLt lo y) = true
    rw [(h2 y rfl).1, (h2 y rfl).2]
    rfl
/-- from lo on without a gap -/
inductive Cov : Str → List Sh → Prop
  | last {s : Sh} : rngB s.lo s.hi = true → s.hi = none → Cov s.lo [s]
  | cons {s : Sh} {m : Str} {r : List Sh} : rngB s.lo s.hi = true → s.hi = some m → Cov m r → Cov s.lo (s :: r)
theorem Cov.lows {lo : Str} {r : List Sh} (h : Cov lo r) : ∀ t ∈ r, sLt t.lo lo = false ∧ rngB t.lo t.hi = true := by
  induction h with
  | last h1 h2 =>
    intro t ht
    rw [List.mem_singleton.mp ht]
    exact ⟨So.sLt_irr _, h1⟩
  | @cons s m r h1 h2 h3 ih =>
    intro t ht
    rcases List.mem_cons.mp ht with rfl | ht
    · exact ⟨So.sLt_irr _, h1⟩
    · rw [h2] at h1
      refine ⟨nlt_of_lt (rng_lt h1).1 (ih t ht).1, (ih t ht).2⟩
theorem Cov.app {lo : Str} {a b : List Sh} (h : Cov lo (a ++ b)) (hb : b ≠ []) : ∃ m, Cov m b ∧ ∀ b', Cov m b' → Cov lo (a ++ b') := by
  induction a generalizing lo with
  | nil => exact ⟨lo, h, fun b' h' => h'⟩
  | cons s a ih =>
    have key : ∀ (lo : Str) (q : List Sh), Cov lo q → q = s :: (a ++ b) → ∃ m, Cov m b ∧ ∀ b', Cov m b' → Cov lo (s :: (a ++ b')) := fun lo q hq => by
      cases hq with
      | last h1 h2 =>
        intro e
        cases a <;> cases b <;> first | exact absurd rfl hb | cases e
      | cons h1 h2 h3 =>
        intro e
        cases e
        obtain ⟨m', k1, k2⟩ := ih h3
        exact ⟨m', k1, fun b' hb' => .cons h1 h2 (k2 b' hb')⟩
    exact key lo _ h rfl
theorem nodup_le {α : Type} [DecidableEq α] : ∀ {a b : List α}, a.Nodup → (∀ x ∈ a, x ∈ b) → a.length ≤ b.length
  | [], b, _, _ => Nat.zero_le _
  | x :: a, b, hn, h => by
    obtain ⟨h1, h2⟩ := List.nodup_cons.mp hn
    have hx := h x List.mem_cons_self
    have := nodup_le (a := a) (b := b.erase x) h2 fun y hy => by
      rw [List.mem_erase_of_ne (fun (e : y = x) => h1 (by rw [← e]; exact hy))]
      exact h y (List.mem_cons_of_mem _ hy)
    rw [List.length_erase_of_mem hx] at this
    have hp : 0 < b.length := List.length_pos_of_mem hx
    rw [List.length_cons]
    omega
/-- what an operation does at a key -/
def atOp (op : Op) (v : Option Str) : Option Str := match op with
  | .put _ n => some n
  | .drop _ => none
  | .swap _ o n => if v = some o then some n else v
  | _ => v
theorem getT_itOf (it : It) (op : Op) (k : Str) : getT (itOf it op) k = if op.place = k then atOp op (getT it k) else getT it k := by
  cases op with
  | get x =>
    show getT it k = if x = k then getT it k else getT it k
    split <;> rfl
  | put x v => exact getT_put it x k v
  | drop x => exact getT_drop it x k
  | swap x o n =>
    show getT (if getT it x = some o then putT it x n else it) k = if x = k then (if getT it k = some o then some n else getT it k) else getT it k
    by_cases c : x = k
    · subst c
      rw [if_pos rfl]
      by_cases d : getT it x = some o
      · rw [if_pos d, if_pos d, getT_put, if_pos rfl]
      · rw [if_neg d, if_neg d]
    · rw [if_neg c]
      split
      · rw [getT_put, if_neg c]
      · rfl
  | page b m =>
    show getT it k = if b = k then getT it k else getT it k
    split <;> rfl
end Q
namespace Q
open PySem L2
local macro_rules | `(tactic| walk_at "mu") => `(tactic| (repeat (first | exact mset_same | assumption | (rw [mset_ne]; rotate_left; (first | assumption | exact Ne.symm (by assumption))))))
local macro_rules | `(tactic| walk_at "lk") => `(tactic| (repeat (first | exact lk_hit | exact lk_nil | refine lk_skip (by decide +kernel) ?_)))
local macro_rules | `(tactic| walk_at "pf") => `(tactic| (repeat (first | rw [pf_nil] | rw [pf_hit] | (rw [pf_skip]; rotate_left; (focus (decide +kernel; done))))))
local macro_rules | `(tactic| walk_at "q") => `(tactic| ((with_reducible conv => whnf); repeat (first
  | (with_reducible refine q_t (by assumption) ?_; with_reducible conv => whnf)
  | (with_reducible refine q_f (by assumption) ?_; with_reducible conv => whnf)
  | (with_reducible refine q_t (by with_reducible rfl) ?_; with_reducible conv => whnf)
  | (with_reducible refine q_f (by with_reducible rfl) ?_; with_reducible conv => whnf)
  | (with_reducible refine q_t (by decide) ?_; with_reducible conv => whnf)
  | (with_reducible refine q_f (by decide) ?_; with_reducible conv => whnf)
  | (with_reducible refine q_t (decide_eq_true (by omega)) ?_; with_reducible conv => whnf)
  | (with_reducible refine q_f (decide_eq_false (by omega)) ?_; with_reducible conv => whnf)
  | (with_reducible refine q_f (q_nn (by omega)) ?_; with_reducible conv => whnf)
  | (with_reducible refine q_t (q_nt (by omega)) ?_; with_reducible conv => whnf)
  | (with_reducible refine q_len (by with_unfolding_all rfl) ?_; with_reducible conv => whnf)
  | (with_reducible refine q_leq (by with_unfolding_all rfl) ?_; with_reducible conv => whnf)
  | (with_reducible refine q_and (by first | assumption | exact True.intro | omega | (simp only [List.length_map, List.length_append, List.length_cons, List.length_nil]; omega) | decide) ?_; with_reducible conv => whnf)
  | (with_reducible refine q_le (by with_unfolding_all rfl) ?_; with_reducible conv => whnf)
  | (with_reducible refine q_and tyL_lst ?_; with_reducible conv => whnf)
  | (with_reducible refine q_and tyL_rol ?_; with_reducible conv => whnf)
  | (with_reducible refine q_and (tyL_ref (by walk_at "mu")) ?_; with_reducible conv => whnf)
  | (with_reducible refine q_and (tyD_ref (by walk_at "mu")) ?_; with_reducible conv => whnf)
  | (with_reducible refine q_and (rdD_ref (by walk_at "mu")) ?_; with_reducible conv => whnf)
  | (rw [pick_c0]; with_reducible conv => whnf)
  | (rw [pick_c1]; with_reducible conv => whnf)
  | (rw [pick_c2]; with_reducible conv => whnf)
  | (rw [pick_c3]; with_reducible conv => whnf)
  | (rw [pick_c4]; with_reducible conv => whnf)
  | (rw [pick_c5]; with_reducible conv => whnf)
  | (rw [mset_same]; with_reducible conv => whnf)
  | (rw [mset_ne (by assumption)]; with_reducible conv => whnf)
  | (rw [mset_ne]; rotate_left; (first | assumption | exact Ne.symm (by assumption)); with_reducible conv => whnf)
  | (rw [rdL_ref]; rotate_left; (focus (walk_at "mu"; done)); with_reducible conv => whnf)
  | (rw [rdL_refD]; rotate_left; (focus (walk_at "mu"; done)); with_reducible conv => whnf)
  | (rw [rdD_refD]; rotate_left; (focus (walk_at "mu"; done)); with_reducible conv => whnf)
  | (rw [rdM_ref]; rotate_left; (focus (walk_at "mu"; done)); with_reducible conv => whnf)
  | (rw [rdL_refK]; rotate_left; (focus (walk_at "mu"; done)); with_reducible conv => whnf)
  | (rw [rdD_refK]; rotate_left; (focus (walk_at "mu"; done)); with_reducible conv => whnf)
  | (rw [tyW_refL]; rotate_left; (focus (walk_at "mu"; done)); with_reducible conv => whnf)
  | (rw [tyW_refD]; rotate_left; (focus (walk_at "mu"; done)); with_reducible conv => whnf)
  | (rw [drf_ref]; rotate_left; (focus (walk_at "mu"; done)); with_reducible conv => whnf)
  | ((conv => (arg 2; tactic' => (walk_at "mu"; done))); with_reducible conv => whnf)
  | (with_reducible refine q_and (Eq.refl _) ?_; with_reducible conv => whnf)
  | (with_reducible refine q_and (MulO.r (by decide)) ?_; with_reducible conv => whnf)
  | (with_reducible refine q_and (MulO.l (by decide)) ?_; with_reducible conv => whnf)
  | (with_reducible refine q_and (MulO.r (by omega)) ?_; with_reducible conv => whnf)
  | (with_reducible refine q_and (MulO.l (by omega)) ?_; with_reducible conv => whnf)
  | (with_reducible refine q_pow (by decide) ?_; with_reducible conv => whnf)
  | (with_reducible refine q_nisT (by first | assumption | with_reducible rfl) ?_; with_reducible conv => whnf)
  | (with_reducible refine q_nisF (by first | assumption | with_reducible rfl) ?_; with_reducible conv => whnf)
  | (with_reducible refine q_eqI ?_; with_reducible conv => whnf)
  | (with_reducible refine q_eqS ?_; with_reducible conv => whnf)
  | (with_reducible refine q_eqB ?_; with_reducible conv => whnf)
  | (with_reducible refine q_neI ?_; with_reducible conv => whnf)
  | (with_reducible refine q_neS ?_; with_reducible conv => whnf)
  | (with_reducible refine q_neB ?_; with_reducible conv => whnf)
  | (with_reducible refine q_memc ?_; with_reducible conv => whnf)
  | (with_reducible refine q_lkn (by walk_at "lk") ?_; with_reducible conv => whnf)
  | (with_reducible refine q_tix (by walk_at "lk"; done) ?_; with_reducible conv => whnf)
  | (with_reducible refine q_tin ?_; with_reducible conv => whnf)
  | (rw [pf_hit]; with_reducible conv => whnf)
  | (rw [pf_skip]; rotate_left; (focus (decide +kernel; done)); with_reducible conv => whnf)
  | (rw [lk_hit]; with_reducible conv => whnf)
  | (rw [lk_skip1]; rotate_left; (focus (decide +kernel; done)); with_reducible conv => whnf))))
/-! letters: is_letter, check_letter -/
/-- the parties -/
inductive Rl where
  | cl | sv | dr
deriving DecidableEq
def Rl.nm : Rl → Str
  | .cl => "client"
  | .sv => "server"
  | .dr => "directory"
end Q
namespace Q
open PySem L2
local macro_rules | `(tactic| walk_at "mu") => `(tactic| (repeat (first | exact mset_same | assumption | (rw [mset_ne]; rotate_left; (first | assumption | exact Ne.symm (by assumption))))))
local macro_rules | `(tactic| walk_at "lk") => `(tactic| (repeat (first | exact lk_hit | exact lk_nil | refine lk_skip (by decide +kernel) ?_)))
local macro_rules | `(tactic| walk_at "pf") => `(tactic| (repeat (first | rw [pf_nil] | rw [pf_hit] | (rw [pf_skip]; rotate_left; (focus (decide +kernel; done))))))
local macro_rules | `(tactic| walk_at "q") => `(tactic| ((with_reducible conv => whnf); repeat (first
  | (with_reducible refine q_t (by assumption) ?_; with_reducible conv => whnf)
  | (with_reducible refine q_f (by assumption) ?_; with_reducible conv => whnf)
  | (with_reducible refine q_t (by with_reducible rfl) ?_; with_reducible conv => whnf)
  | (with_reducible refine q_f (by with_reducible rfl) ?_; with_reducible conv => whnf)
  | (with_reducible refine q_t (by decide) ?_; with_reducible conv => whnf)
  | (with_reducible refine q_f (by decide) ?_; with_reducible conv => whnf)
  | (with_reducible refine q_t (decide_eq_true (by omega)) ?_; with_reducible conv => whnf)
  | (with_reducible refine q_f (decide_eq_false (by omega)) ?_; with_reducible conv => whnf)
  | (with_reducible refine q_f (q_nn (by omega)) ?_; with_reducible conv => whnf)
  | (with_reducible refine q_t (q_nt (by omega)) ?_; with_reducible conv => whnf)
  | (with_reducible refine q_len (by with_unfolding_all rfl) ?_; with_reducible conv => whnf)
  | (with_reducible refine q_leq (by with_unfolding_all rfl) ?_; with_reducible conv => whnf)
  | (with_reducible refine q_and (by first | assumption | exact True.intro | omega | (simp only [List.length_map, List.length_append, List.length_cons, List.length_nil]; omega) | decide) ?_; with_reducible conv => whnf)
  | (with_reducible refine q_le (by with_unfolding_all rfl) ?_; with_reducible conv => whnf)
  | (with_reducible refine q_and tyL_lst ?_; with_reducible conv => whnf)
  | (with_reducible refine q_and tyL_rol ?_; with_reducible conv => whnf)
  | (with_reducible refine q_and (tyL_ref (by walk_at "mu")) ?_; with_reducible conv => whnf)
  | (with_reducible refine q_and (tyD_ref (by walk_at "mu")) ?_; with_reducible conv => whnf)
  | (with_reducible refine q_and (rdD_ref (by walk_at "mu")) ?_; with_reducible conv => whnf)
  | (rw [pick_c0]; with_reducible conv => whnf)
  | (rw [pick_c1]; with_reducible conv => whnf)
  | (rw [pick_c2]; with_reducible conv => whnf)
  | (rw [pick_c3]; with_reducible conv => whnf)
  | (rw [pick_c4]; with_reducible conv => whnf)
  | (rw [pick_c5]; with_reducible conv => whnf)
  | (rw [mset_same]; with_reducible conv => whnf)
  | (rw [mset_ne (by assumption)]; with_reducible conv => whnf)
  | (rw [mset_ne]; rotate_left; (first | assumption | exact Ne.symm (by assumption)); with_reducible conv => whnf)
  | (rw [rdL_ref]; rotate_left; (focus (walk_at "mu"; done)); with_reducible conv => whnf)
  | (rw [rdL_refD]; rotate_left; (focus (walk_at "mu"; done)); with_reducible conv => whnf)
  | (rw [rdD_refD]; rotate_left; (focus (walk_at "mu"; done)); with_reducible conv => whnf)
  | (rw [rdM_ref]; rotate_left; (focus (walk_at "mu"; done)); with_reducible conv => whnf)
  | (rw [rdL_refK]; rotate_left; (focus (walk_at "mu"; done)); with_reducible conv => whnf)
  | (rw [rdD_refK]; rotate_left; (focus (walk_at "mu"; done)); with_reducible conv => whnf)
  | (rw [tyW_refL]; rotate_left; (focus (walk_at "mu"; done)); with_reducible conv => whnf)
  | (rw [tyW_refD]; rotate_left; (focus (walk_at "mu"; done)); with_reducible conv => whnf)
  | (rw [drf_ref]; rotate_left; (focus (walk_at "mu"; done)); with_reducible conv => whnf)
  | ((conv => (arg 2; tactic' => (walk_at "mu"; done))); with_reducible conv => whnf)
  | (with_reducible refine q_and (Eq.refl _) ?_; with_reducible conv => whnf)
  | (with_reducible refine q_and (MulO.r (by decide)) ?_; with_reducible conv => whnf)
  | (with_reducible refine q_and (MulO.l (by decide)) ?_; with_reducible conv => whnf)
  | (with_reducible refine q_and (MulO.r (by omega)) ?_; with_reducible conv => whnf)
  | (with_reducible refine q_and (MulO.l (by omega)) ?_; with_reducible conv => whnf)
  | (with_reducible refine q_pow (by decide) ?_; with_reducible conv => whnf)
  | (with_reducible refine q_nisT (by first | assumption | with_reducible rfl) ?_; with_reducible conv => whnf)
  | (with_reducible refine q_nisF (by first | assumption | with_reducible rfl) ?_; with_reducible conv => whnf)
  | (with_reducible refine q_eqI ?_; with_reducible conv => whnf)
  | (with_reducible refine q_eqS ?_; with_reducible conv => whnf)
  | (with_reducible refine q_eqB ?_; with_reducible conv => whnf)
  | (with_reducible refine q_neI ?_; with_reducible conv => whnf)
  | (with_reducible refine q_neS ?_; with_reducible conv => whnf)
  | (with_reducible refine q_neB ?_; with_reducible conv => whnf)
  | (with_reducible refine q_memc ?_; with_reducible conv => whnf)
  | (with_reducible refine q_lkn (by walk_at "lk") ?_; with_reducible conv => whnf)
  | (with_reducible refine q_tix (by walk_at "lk"; done) ?_; with_reducible conv => whnf)
  | (with_reducible refine q_tin ?_; with_reducible conv => whnf)
  | (rw [pf_hit]; with_reducible conv => whnf)
  | (rw [pf_skip]; rotate_left; (focus (decide +kernel; done)); with_reducible conv => whnf)
  | (rw [lk_hit]; with_reducible conv => whnf)
  | (rw [lk_skip1]; rotate_left; (focus (decide +kernel; done)); with_reducible conv => whnf))))
/-! the answers are answers; pairs and rows of a content are such -/
theorem slt_nilS (x : Str) : sLt x "" = false := by
  unfold sLt
  exact decide_eq_false (by
    show ¬x.cps.toList < []
    exact List.not_lt_nil _)
theorem slt_nil2 {k : Str} (h : isKeyB k = true) : sLt "" k = true := by
  have h1 : 1 ≤ k.length := by
    unfold isKeyB at h
    exact (of_decide_eq_true (Bool.and_eq_true_iff.mp h).1).1
  rcases So.sLt_tri "" k with q | q | q
  · exact q
  · rw [← q] at h1
    exact absurd h1 (by decide +kernel)
  · rw [show sLt k "" = false from slt_nilS k] at q
    cases q
theorem srt_lt {ks : List Str} (hn : ks.Nodup) : (So.sortS ks).Pairwise fun a b => sLt a b = true := by
  have h1 := So.sortS_pw ks
  have h2 : (So.sortS ks).Nodup := (So.sortS_perm ks).nodup_iff.mpr hn
  refine (List.Pairwise.and h1 h2).imp fun {a b} h => ?_
  obtain ⟨h3, h4⟩ := h
  have h3 : (!sLt b a) = true := h3
  rcases So.sLt_tri a b with q | q | q
  · exact q
  · exact absurd q h4
  · rw [q] at h3
    cases h3
theorem ris_of {it : It} (hv : ∀ k v, getT it k = some v → isKeyB k = true ∧ valS v = true) : ∀ {ks : List Str} {z : Str}, ks.Pairwise (fun a b => sLt a b = true) → (∀ k ∈ ks, sLt z k = true ∧ (getT it k).isSome = true) → risB z (ks.map (pairW it)) = true
  | [], z, _, _ => rfl
  | k :: ks, z, hp, hk => by
    obtain ⟨h1, h2⟩ := List.pairwise_cons.mp hp
    obtain ⟨a1, a2⟩ := hk k List.mem_cons_self
    obtain ⟨v, ev⟩ := Option.isSome_iff_exists.mp a2
    obtain ⟨b1, b2⟩ := hv k v ev
    show ((isKeyB k && valB (.str ((getT it k).getD ""))) && (sLt z k && risB k (ks.map (pairW it)))) = true
    rw [ev, b1, a1, show valB (.str ((some v).getD "")) = true from b2, ris_of hv h2 fun k' hk' => ⟨h1 k' hk', (hk k' (List.mem_cons_of_mem _ hk')).2⟩]
    rfl
theorem pair_D (it : It) (k : Str) (n : Nat) : isD (n + 1) (pairW it k) = true := by
  unfold pairW
  cases n <;> rfl
theorem dps_map {α : Type} {f : α → W} {xs : List α} (h : ∀ x ∈ xs, dp (f x) = true) : dps (xs.map f) = true := dps_of fun w hw => by
  obtain ⟨x, hx, rfl⟩ := List.mem_map.mp hw
  exact h x hx
theorem isDs_map {α : Type} {n : Nat} {f : α → W} {xs : List α} (h : ∀ x ∈ xs, isD n (f x) = true) : isDs n (xs.map f) = true := isDs_all fun w hw => by
  obtain ⟨x, hx, rfl⟩ := List.mem_map.mp hw
  exact h x hx
theorem dp_strL {z : Str} (h : z.length ≤ 1000) : dp (.str z) = true := by
  unfold dp
  exact decide_eq_true (by omega)
theorem dp_tupI {ws : List W} (h : dps ws = true) : dp (.tup ws) = true := by
  unfold dp
  exact h
theorem dps_consI {w : W} {ws : List W} (h1 : dp w = true) (h2 : dps ws = true) : dps (w :: ws) = true := by
  unfold dps
  rw [h1, h2]
  rfl
theorem dps_nilI : dps [] = true := by unfold dps; rfl
theorem dp_intI (i : Int) : dp (.int i) = true := by unfold dp; rfl
theorem pair_dp {it : It} (hv : ∀ k v, getT it k = some v → isKeyB k = true ∧ valS v = true) {k : Str} (h : (getT it k).isSome = true) : dp (pairW it k) = true := by
  obtain ⟨v, ev⟩ := Option.isSome_iff_exists.mp h
  obtain ⟨b1, b2⟩ := hv k v ev
  unfold pairW
  rw [ev]
  exact dp_tupI (dps_consI (dp_strL (by have := key_len b1; omega)) (dps_consI (dp_strL (by have := val_len b2; simp only [Option.getD_some]; omega)) dps_nilI))
/-- an answer as it is sent -/
def AnsOk (a : W) : Prop := ansW a = true ∧ dp a = true ∧ isD 50 a = true
theorem noneW_ok : AnsOk noneW := ⟨by unfold noneW ansW ansB; decide +kernel, dp_tupI (dps_consI (dp_strL (by decide +kernel)) dps_nilI), rfl⟩
theorem doneW_ok : AnsOk doneW := ⟨by unfold doneW ansW ansB; decide +kernel, dp_tupI (dps_consI (dp_strL (by decide +kernel)) dps_nilI), rfl⟩
theorem valueW_ok {v : Str} (h : valS v = true) : AnsOk (.tup [.str "value", .str v]) := by
  refine ⟨?_, dp_tupI (dps_consI (dp_strL (by decide +kernel)) (dps_consI (dp_strL (by have := val_len h; omega)) dps_nilI)), rfl⟩
  show ansB (.str "value" :: [.str v]) = true
  unfold ansB
  simp only
  rw [if_pos (.inl trivial)]
  exact h
theorem otherW_ok {v : Str} (h : valS v = true) : AnsOk (.tup [.str "other", .str v]) := by
  refine ⟨?_, dp_tupI (dps_consI (dp_strL (by decide +kernel)) (dps_consI (dp_strL (by have := val_len h; omega)) dps_nilI)), rfl⟩
  show ansB (.str "other" :: [.str v]) = true
  unfold ansB
  simp only
  rw [if_pos (.inr trivial)]
  exact h
theorem pgK_pw {it : It} (hn : Nd it) (b : Str) : (pgK it b).Pairwise fun a b => sLt a b = true := srt_lt (List.Nodup.sublist List.filter_sublist hn)
theorem ans_ok {it : It} {lo : Str} {hi : Option Str} {op : Op} (hn : Nd it) (hr : rngB lo hi = true) (hv : ∀ k v, getT it k = some v → isKeyB k = true ∧ valS v = true) (hk : ∀ k, (getT it k).isSome = true → hasK lo hi k = true) (ho : op.Ok) : AnsOk (ansIt it (oS hi) op) := by
  cases op with
  | get k =>
    rw [ans_get]
    cases e : getT it k with
    | none => exact noneW_ok
    | some v => exact valueW_ok (hv k v e).2
  | put k v => exact doneW_ok
  | drop k =>
    rw [ans_drop]
    cases e : getT it k with
    | none => exact noneW_ok
    | some v => exact doneW_ok
  | swap k o n =>
    rw [ans_swap]
    cases e : getT it k with
    | none => exact noneW_ok
    | some v =>
      show AnsOk (if v = o then doneW else .tup [.str "other", .str v])
      split
      · exact doneW_ok
      · exact otherW_ok (hv k v e).2
  | page b m =>
    obtain ⟨b1, m1, m2⟩ : (isKeyB b || decide (b = "")) = true ∧ 1 ≤ m ∧ m ≤ 50 := ho
    rw [ans_page]
    have pw := pgK_pw hn b
    have tw : ((pgK it b).take m).Pairwise fun a b => sLt a b = true := pw.sublist (List.take_sublist _ _)
    have mem : ∀ k ∈ (pgK it b).take m, (getT it k).isSome = true := fun k hk => (pgK_mem.mp (List.mem_of_mem_take hk)).1
    have ris : risB "" (((pgK it b).take m).map (pairW it)) = true := ris_of hv tw fun k hk => by
      obtain ⟨v, ev⟩ := Option.isSome_iff_exists.mp (mem k hk)
      exact ⟨slt_nil2 (hv k v ev).1, mem k hk⟩
    have fol : ∃ f : Option Str, nxtW ((pgK it b)[m]?) (oS hi) = oS f ∧ (∀ y, f = some y → isKeyB y = true) ∧ ∀ k ∈ (pgK it b).take m, ∀ y, f = some y → sLt k y = true := by
      cases e : (pgK it b)[m]? with
      | some k =>
        refine ⟨some k, rfl, fun y hy => ?_, fun k' hk' y hy => ?_⟩
        · cases hy
          obtain ⟨v, ev⟩ := Option.isSome_iff_exists.mp (pgK_mem.mp (List.mem_of_getElem? e)).1
          exact (hv k v ev).1
        · cases hy
          obtain ⟨h1, h2⟩ := List.getElem?_eq_some_iff.mp e
          have sp : pgK it b = (pgK it b).take m ++ k :: (pgK it b).drop (m + 1) := by
            rw [← h2, ← List.drop_eq_getElem_cons h1, List.take_append_drop]
          rw [sp] at pw
          exact (List.pairwise_append.mp pw).2.2 k' hk' k List.mem_cons_self
      | none =>
        refine ⟨hi, rfl, fun y hy => ?_, fun k hk' y hy => ?_⟩
        · subst hy
          exact (rng_lt hr).2
        · exact (hasK_iff.mp (hk k (mem k hk'))).2 y hy
    obtain ⟨f, ef, f1, f2⟩ := fol
    rw [ef]
    have dpairs : dps (((pgK it b).take m).map (pairW it)) = true := dps_map fun k hk => pair_dp hv (mem k hk)
    refine ⟨?_, dp_tupI (dps_consI (dp_strL (by decide +kernel)) (dps_consI (dp_tupI dpairs) (dps_consI ?_ dps_nilI))), ?_⟩
    · show ansB (.str "page" :: [.tup (((pgK it b).take m).map (pairW it)), oS f]) = true
      unfold ansB
      simp only
      rw [if_neg (by decide +kernel), if_neg (by decide +kernel), if_pos trivial]
      show folB (.tup (((pgK it b).take m).map (pairW it))) (oS f) = true
      unfold folB
      rw [show pairsB (.tup (((pgK it b).take m).map (pairW it))) = true from ris, Bool.true_and]
      simp only
      rw [decide_eq_true (show (((pgK it b).take m).map (pairW it)).length ≤ 50 by rw [List.length_map, List.length_take]; omega), Bool.true_and]
      rcases last_cases ((pgK it b).take m) with e | ⟨ys, y, e⟩
      · rw [e]
        cases f with
        | none => rfl
        | some y =>
          show (isKeyB y && true) = true
          rw [f1 y rfl]
          rfl
      · have hy := f2 y (by rw [e]; simp)
        rw [e, List.map_append, List.map_cons, List.map_nil, List.getLast?_concat]
        cases f with
        | none => rfl
        | some z =>
          show (isKeyB z && sLt y z) = true
          rw [f1 z rfl, hy z rfl]
          rfl
    · cases f with
      | none => unfold oS dp; rfl
      | some y => exact dp_strL (by have := key_len (f1 y rfl); omega)
    · show (true && (isDs 48 (((pgK it b).take m).map (pairW it)) && (isD 49 (oS f) && true))) = true
      rw [isDs_map fun k _ => pair_D it k 47]
      cases f <;> rfl
end Q
namespace Q
open PySem L2
local macro_rules | `(tactic| walk_at "mu") => `(tactic| (repeat (first | exact mset_same | assumption | (rw [mset_ne]; rotate_left; (first | assumption | exact Ne.symm (by assumption))))))
local macro_rules | `(tactic| walk_at "lk") => `(tactic| (repeat (first | exact lk_hit | exact lk_nil | refine lk_skip (by decide +kernel) ?_)))
local macro_rules | `(tactic| walk_at "pf") => `(tactic| (repeat (first | rw [pf_nil] | rw [pf_hit] | (rw [pf_skip]; rotate_left; (focus (decide +kernel; done))))))
local macro_rules | `(tactic| walk_at "q") => `(tactic| ((with_reducible conv => whnf); repeat (first
  | (with_reducible refine q_t (by assumption) ?_; with_reducible conv => whnf)
  | (with_reducible refine q_f (by assumption) ?_; with_reducible conv => whnf)
  | (with_reducible refine q_t (by with_reducible rfl) ?_; with_reducible conv => whnf)
  | (with_reducible refine q_f (by with_reducible rfl) ?_; with_reducible conv => whnf)
  | (with_reducible refine q_t (by decide) ?_; with_reducible conv => whnf)
  | (with_reducible refine q_f (by decide) ?_; with_reducible conv => whnf)
  | (with_reducible refine q_t (decide_eq_true (by omega)) ?_; with_reducible conv => whnf)
  | (with_reducible refine q_f (decide_eq_false (by omega)) ?_; with_reducible conv => whnf)
  | (with_reducible refine q_f (q_nn (by omega)) ?_; with_reducible conv => whnf)
  | (with_reducible refine q_t (q_nt (by omega)) ?_; with_reducible conv => whnf)
  | (with_reducible refine q_len (by with_unfolding_all rfl) ?_; with_reducible conv => whnf)
  | (with_reducible refine q_leq (by with_unfolding_all rfl) ?_; with_reducible conv => whnf)
  | (with_reducible refine q_and (by first | assumption | exact True.intro | omega | (simp only [List.length_map, List.length_append, List.length_cons, List.length_nil]; omega) | decide) ?_; with_reducible conv => whnf)
  | (with_reducible refine q_le (by with_unfolding_all rfl) ?_; with_reducible conv => whnf)
  | (with_reducible refine q_and tyL_lst ?_; with_reducible conv => whnf)
  | (with_reducible refine q_and tyL_rol ?_; with_reducible conv => whnf)
  | (with_reducible refine q_and (tyL_ref (by walk_at "mu")) ?_; with_reducible conv => whnf)
  | (with_reducible refine q_and (tyD_ref (by walk_at "mu")) ?_; with_reducible conv => whnf)
  | (with_reducible refine q_and (rdD_ref (by walk_at "mu")) ?_; with_reducible conv => whnf)
  | (rw [pick_c0]; with_reducible conv => whnf)
  | (rw [pick_c1]; with_reducible conv => whnf)
  | (rw [pick_c2]; with_reducible conv => whnf)
  | (rw [pick_c3]; with_reducible conv => whnf)
  | (rw [pick_c4]; with_reducible conv => whnf)
  | (rw [pick_c5]; with_reducible conv => whnf)
  | (rw [mset_same]; with_reducible conv => whnf)
  | (rw [mset_ne (by assumption)]; with_reducible conv => whnf)
  | (rw [mset_ne]; rotate_left; (first | assumption | exact Ne.symm (by assumption)); with_reducible conv => whnf)
  | (rw [rdL_ref]; rotate_left; (focus (walk_at "mu"; done)); with_reducible conv => whnf)
  | (rw [rdL_refD]; rotate_left; (focus (walk_at "mu"; done)); with_reducible conv => whnf)
  | (rw [rdD_refD]; rotate_left; (focus (walk_at "mu"; done)); with_reducible conv => whnf)
  | (rw [rdM_ref]; rotate_left; (focus (walk_at "mu"; done)); with_reducible conv => whnf)
  | (rw [rdL_refK]; rotate_left; (focus (walk_at "mu"; done)); with_reducible conv => whnf)
  | (rw [rdD_refK]; rotate_left; (focus (walk_at "mu"; done)); with_reducible conv => whnf)
  | (rw [tyW_refL]; rotate_left; (focus (walk_at "mu"; done)); with_reducible conv => whnf)
  | (rw [tyW_refD]; rotate_left; (focus (walk_at "mu"; done)); with_reducible conv => whnf)
  | (rw [drf_ref]; rotate_left; (focus (walk_at "mu"; done)); with_reducible conv => whnf)
  | ((conv => (arg 2; tactic' => (walk_at "mu"; done))); with_reducible conv => whnf)
  | (with_reducible refine q_and (Eq.refl _) ?_; with_reducible conv => whnf)
  | (with_reducible refine q_and (MulO.r (by decide)) ?_; with_reducible conv => whnf)
  | (with_reducible refine q_and (MulO.l (by decide)) ?_; with_reducible conv => whnf)
  | (with_reducible refine q_and (MulO.r (by omega)) ?_; with_reducible conv => whnf)
  | (with_reducible refine q_and (MulO.l (by omega)) ?_; with_reducible conv => whnf)
  | (with_reducible refine q_pow (by decide) ?_; with_reducible conv => whnf)
  | (with_reducible refine q_nisT (by first | assumption | with_reducible rfl) ?_; with_reducible conv => whnf)
  | (with_reducible refine q_nisF (by first | assumption | with_reducible rfl) ?_; with_reducible conv => whnf)
  | (with_reducible refine q_eqI ?_; with_reducible conv => whnf)
  | (with_reducible refine q_eqS ?_; with_reducible conv => whnf)
  | (with_reducible refine q_eqB ?_; with_reducible conv => whnf)
  | (with_reducible refine q_neI ?_; with_reducible conv => whnf)
  | (with_reducible refine q_neS ?_; with_reducible conv => whnf)
  | (with_reducible refine q_neB ?_; with_reducible conv => whnf)
  | (with_reducible refine q_memc ?_; with_reducible conv => whnf)
  | (with_reducible refine q_lkn (by walk_at "lk") ?_; with_reducible conv => whnf)
  | (with_reducible refine q_tix (by walk_at "lk"; done) ?_; with_reducible conv => whnf)
  | (with_reducible refine q_tin ?_; with_reducible conv => whnf)
  | (rw [pf_hit]; with_reducible conv => whnf)
  | (rw [pf_skip]; rotate_left; (focus (decide +kernel; done)); with_reducible conv => whnf)
  | (rw [lk_hit]; with_reducible conv => whnf)
  | (rw [lk_skip1]; rotate_left; (focus (decide +kernel; done)); with_reducible conv => whnf))))
/-! shards that are made of a content -/
def prW (x : Str × Str) : W := .tup [.str x.1, .str x.2]
def rwW (x : Int × (Int × W)) : W := rowW x.1 x.2
section
variable {μ : Mu} {P : Po} {X : Xo}
theorem putT_app {κ α : Type} [DecidableEq κ] {t : Tb κ α} {k : κ} {v : α} (h : k ∉ keysT t) : putT t k v = t ++ [(k, v)] := by
  unfold putT
  rw [if_neg fun c => ?_]
  obtain ⟨y, h1, h2⟩ := List.any_eq_true.mp c
  exact h (List.mem_map.mpr ⟨y, h1, of_decide_eq_true h2⟩)
theorem sp_made_ {lo : Str} {hi : Option Str} {ep : Int} {it : It} {ss : Ss} (hr : rngB lo hi = true) (he : epB ep = true) (hn : Nd it) (hs : Nd ss) (dp1 : dp (.tup (it.map prW)) = true) (dp2 : dp (.tup (ss.map rwW)) = true) (ip : inPairs (.str lo) (oS hi) (.tup (it.map prW)) = true) (ir : rowsW (.tup (ss.map rwW)) = true) (lz : it.length < 1000000) (lz2 : ss.length < 1000000)
    (k : ∀ b μ', ShNew μ μ' b ⟨lo, hi, ep, it, ss⟩ → P (.ref b.s) μ') : f_made [.str lo, oS hi, .int ep, .tup (it.map prW), .tup (ss.map rwW)] μ P X := by
  rw [f_made_eq]; unfold f_made_B fDef
  refine ⟨rfl, ?_⟩
  have hold := And.intro hr (And.intro he (And.intro dp1 (And.intro dp2 (And.intro ip ir))))
  clear hr he dp1 dp2 ip ir
  walk_at "q"
  intro s hs0
  refine sp_ShInit hold.1 hold.2.1 hs0 fun i e l n1 n2 n3 n4 n5 n6 hi0 he0 hl0 => ?_
  walk_at "q"
  refine sp_is_pairs hold.1 hold.2.2.1 ?_
  rw [hold.2.2.2.2.1]
  walk_at "q"
  refine sp_is_rows hold.2.2.2.1 ?_
  rw [hold.2.2.2.2.2]
  walk_at "q"
  refine dc_pureK (fun w => match w with
    | .tup [.str k, v] => some (Sum.inr k, v)
    | _ => none) (by intros; trivial) (by rw [List.length_map]; omega) (fun w hw μ' hx N Y hno hyes => ?_) fun p hp => ?_
  · obtain ⟨x, hx1, rfl⟩ := List.mem_map.mp hw
    unfold prW at hyes ⊢
    walk_at "q"
    exact hyes _ _ rfl
  have ef : (it.map prW).filterMap (fun w => match w with
    | .tup [.str k, v] => some ((Sum.inr k : Key), v)
    | _ => none) = encI it := by
    rw [List.filterMap_map]
    unfold encI encT
    rw [← List.filterMap_eq_map]
    rfl
  rw [ef, puts_app _ _ (by rw [List.nil_append, keys_encI]; exact (List.pairwise_map.mpr (hn.imp fun h z => h (Sum.inr.inj z)))), List.nil_append]
  obtain ⟨m1, hp⟩ := new_ne hp
  obtain ⟨m2, hp⟩ := new_ne hp
  obtain ⟨m3, hp⟩ := new_ne hp
  obtain ⟨m4, hp⟩ := new_ne hp
  walk_at "q"
  walk_at "pf"
  have base : ShAt (mset (mset (mset (mset (mset (mset μ i (.dk [])) l (.dk [])) e (sesO l)) s (shO lo hi ep i e)) p (.dk (encI it))) s (shO lo hi ep p e)) ⟨s, p, e, l⟩ ⟨lo, hi, ep, it, []⟩ := by
    refine ⟨mset_same, ?_, ?_, ?_, m3⟩
    · show mset _ _ _ p = _
      rw [mset_ne m1, mset_same]
    · show mset _ _ _ e = _
      rw [mset_ne n2, mset_ne (Ne.symm m2), mset_ne n2, mset_same]
    · show mset _ _ _ l = _
      rw [mset_ne n3, mset_ne (Ne.symm m3), mset_ne n3, mset_ne n6, mset_same]
      rfl
  have xb : Ext μ (mset (mset (mset (mset (mset (mset μ i (.dk [])) l (.dk [])) e (sesO l)) s (shO lo hi ep i e)) p (.dk (encI it))) s (shO lo hi ep p e)) := fun b o hb => by
    rw [mset_ne (ne_old hb hs0), mset_ne (ne_old hb hp), mset_ne (ne_old hb hs0), mset_ne (ne_old hb he0), mset_ne (ne_old hb hl0), mset_ne (ne_old hb hi0), hb]
  revert base xb
  generalize mset (mset (mset (mset (mset (mset μ i (.dk [])) l (.dk [])) e (sesO l)) s (shO lo hi ep i e)) p (.dk (encI it))) s (shO lo hi ep p e) = μ1
  intro base xb
  refine itS_of rwW (fun done rest ρ μ' => done ++ rest = ss ∧ Ext μ μ' ∧ ShAt μ' ⟨s, p, e, l⟩ ⟨lo, hi, ep, it, done⟩ ∧ ∃ (x6 x7 x8 : Option W), ρ = [some (.str lo), some (oS hi), some (.int ep), some (.tup (it.map prW)), some (.tup (ss.map rwW)), some (.ref s), x6, x7, x8, none, none]) ss [] ⟨rfl, xb, base, none, none, none, rfl⟩ ?_ ?_
  · rintro done x rest ρ μ' ⟨hd, xe, g, x6, x7, x8, rfl⟩
    refine ⟨trivial, fun K hK => ?_⟩
    have gs : μ' s = some (.ins "Shard" [("low", .str lo), ("high", oS hi), ("epoch", .int ep), ("_items", .ref p), ("_sessions", .ref e)]) := g.s
    have ge : μ' e = some (sesO l) := g.e
    have gl : μ' l = some (.dk (encS done)) := g.l
    obtain ⟨c, n, a⟩ := x
    have cn : c ∉ keysT done := fun z => by
      rw [← hd] at hs
      unfold Nd keysT at hs
      rw [List.map_append, List.nodup_append] at hs
      exact hs.2.2 c z c (by simp) rfl
    have dl : done.length < 1000000 := by
      have h5 : (done ++ (c, n, a) :: rest).length = ss.length := by rw [hd]
      rw [List.length_append, List.length_cons] at h5
      omega
    show gT 3 _ (.tup [.int c, .int n, a]) _ _ _
    walk_at "q"
    refine sp_Sremember ge gl (by omega) (fun _ => ?_) fun z => absurd (stat_new.mpr fun y hy => ?_) z
    · have g2 := g.upd it (done ++ [(c, n, a)])
      have e1 : mset (mset μ' p (.dk (encI it))) l (.dk (encS (done ++ [(c, n, a)]))) = mset μ' l (.dk (encS (putT done c (n, a)))) := by
        rw [mset_self (show μ' p = some (.dk (encI it)) from g.i), putT_app cn]
      have g2 : ShAt (mset (mset μ' p (.dk (encI it))) l (.dk (encS (done ++ [(c, n, a)])))) ⟨s, p, e, l⟩ ⟨lo, hi, ep, it, done ++ [(c, n, a)]⟩ := g2
      rw [e1] at g2
      walk_at "q"
      refine hK _ _ ⟨by rw [← hd]; simp, fun b o hb => ?_, g2, _, _, _, rfl⟩
      rw [mset_ne (ne_old hb hl0)]
      exact xe b o hb
    · exact absurd ((mem_keysT done c).mpr (by rw [hy]; rfl)) cn
  · rintro done ρ μ' ⟨hd, xe, g, x6, x7, x8, rfl⟩
    refine ⟨trivial, ?_⟩
    rw [List.append_nil] at hd
    subst hd
    walk_at "q"
    exact Rt.now (k ⟨s, p, e, l⟩ μ' ⟨xe, g, hp, hl0⟩)
end
end Q
namespace Q
open PySem L2
local macro_rules | `(tactic| walk_at "mu") => `(tactic| (repeat (first | exact mset_same | assumption | (rw [mset_ne]; rotate_left; (first | assumption | exact Ne.symm (by assumption))))))
local macro_rules | `(tactic| walk_at "lk") => `(tactic| (repeat (first | exact lk_hit | exact lk_nil | refine lk_skip (by decide +kernel) ?_)))
local macro_rules | `(tactic| walk_at "pf") => `(tactic| (repeat (first | rw [pf_nil] | rw [pf_hit] | (rw [pf_skip]; rotate_left; (focus (decide +kernel; done))))))
local macro_rules | `(tactic| walk_at "q") => `(tactic| ((with_reducible conv => whnf); repeat (first
  | (with_reducible refine q_t (by assumption) ?_; with_reducible conv => whnf)
  | (with_reducible refine q_f (by assumption) ?_; with_reducible conv => whnf)
  | (with_reducible refine q_t (by with_reducible rfl) ?_; with_reducible conv => whnf)
  | (with_reducible refine q_f (by with_reducible rfl) ?_; with_reducible conv => whnf)
  | (with_reducible refine q_t (by decide) ?_; with_reducible conv => whnf)
  | (with_reducible refine q_f (by decide) ?_; with_reducible conv => whnf)
  | (with_reducible refine q_t (decide_eq_true (by omega)) ?_; with_reducible conv => whnf)
  | (with_reducible refine q_f (decide_eq_false (by omega)) ?_; with_reducible conv => whnf)
  | (with_reducible refine q_f (q_nn (by omega)) ?_; with_reducible conv => whnf)
  | (with_reducible refine q_t (q_nt (by omega)) ?_; with_reducible conv => whnf)
  | (with_reducible refine q_len (by with_unfolding_all rfl) ?_; with_reducible conv => whnf)
  | (with_reducible refine q_leq (by with_unfolding_all rfl) ?_; with_reducible conv => whnf)
  | (with_reducible refine q_and (by first | assumption | exact True.intro | omega | (simp only [List.length_map, List.length_append, List.length_cons, List.length_nil]; omega) | decide) ?_; with_reducible conv => whnf)
  | (with_reducible refine q_le (by with_unfolding_all rfl) ?_; with_reducible conv => whnf)
  | (with_reducible refine q_and tyL_lst ?_; with_reducible conv => whnf)
  | (with_reducible refine q_and tyL_rol ?_; with_reducible conv => whnf)
  | (with_reducible refine q_and (tyL_ref (by walk_at "mu")) ?_; with_reducible conv => whnf)
  | (with_reducible refine q_and (tyD_ref (by walk_at "mu")) ?_; with_reducible conv => whnf)
  | (with_reducible refine q_and (rdD_ref (by walk_at "mu")) ?_; with_reducible conv => whnf)
  | (rw [pick_c0]; with_reducible conv => whnf)
  | (rw [pick_c1]; with_reducible conv => whnf)
  | (rw [pick_c2]; with_reducible conv => whnf)
  | (rw [pick_c3]; with_reducible conv => whnf)
  | (rw [pick_c4]; with_reducible conv => whnf)
  | (rw [pick_c5]; with_reducible conv => whnf)
  | (rw [mset_same]; with_reducible conv => whnf)
  | (rw [mset_ne (by assumption)]; with_reducible conv => whnf)
  | (rw [mset_ne]; rotate_left; (first | assumption | exact Ne.symm (by assumption)); with_reducible conv => whnf)
  | (rw [rdL_ref]; rotate_left; (focus (walk_at "mu"; done)); with_reducible conv => whnf)
  | (rw [rdL_refD]; rotate_left; (focus (walk_at "mu"; done)); with_reducible conv => whnf)
  | (rw [rdD_refD]; rotate_left; (focus (walk_at "mu"; done)); with_reducible conv => whnf)
  | (rw [rdM_ref]; rotate_left; (focus (walk_at "mu"; done)); with_reducible conv => whnf)
  | (rw [rdL_refK]; rotate_left; (focus (walk_at "mu"; done)); with_reducible conv => whnf)
  | (rw [rdD_refK]; rotate_left; (focus (walk_at "mu"; done)); with_reducible conv => whnf)
  | (rw [tyW_refL]; rotate_left; (focus (walk_at "mu"; done)); with_reducible conv => whnf)
  | (rw [tyW_refD]; rotate_left; (focus (walk_at "mu"; done)); with_reducible conv => whnf)
  | (rw [drf_ref]; rotate_left; (focus (walk_at "mu"; done)); with_reducible conv => whnf)
  | ((conv => (arg 2; tactic' => (walk_at "mu"; done))); with_reducible conv => whnf)
  | (with_reducible refine q_and (Eq.refl _) ?_; with_reducible conv => whnf)
  | (with_reducible refine q_and (MulO.r (by decide)) ?_; with_reducible conv => whnf)
  | (with_reducible refine q_and (MulO.l (by decide)) ?_; with_reducible conv => whnf)
  | (with_reducible refine q_and (MulO.r (by omega)) ?_; with_reducible conv => whnf)
  | (with_reducible refine q_and (MulO.l (by omega)) ?_; with_reducible conv => whnf)
  | (with_reducible refine q_pow (by decide) ?_; with_reducible conv => whnf)
  | (with_reducible refine q_nisT (by first | assumption | with_reducible rfl) ?_; with_reducible conv => whnf)
  | (with_reducible refine q_nisF (by first | assumption | with_reducible rfl) ?_; with_reducible conv => whnf)
  | (with_reducible refine q_eqI ?_; with_reducible conv => whnf)
  | (with_reducible refine q_eqS ?_; with_reducible conv => whnf)
  | (with_reducible refine q_eqB ?_; with_reducible conv => whnf)
  | (with_reducible refine q_neI ?_; with_reducible conv => whnf)
  | (with_reducible refine q_neS ?_; with_reducible conv => whnf)
  | (with_reducible refine q_neB ?_; with_reducible conv => whnf)
  | (with_reducible refine q_memc ?_; with_reducible conv => whnf)
  | (with_reducible refine q_lkn (by walk_at "lk") ?_; with_reducible conv => whnf)
  | (with_reducible refine q_tix (by walk_at "lk"; done) ?_; with_reducible conv => whnf)
  | (with_reducible refine q_tin ?_; with_reducible conv => whnf)
  | (rw [pf_hit]; with_reducible conv => whnf)
  | (rw [pf_skip]; rotate_left; (focus (decide +kernel; done)); with_reducible conv => whnf)
  | (rw [lk_hit]; with_reducible conv => whnf)
  | (rw [lk_skip1]; rotate_left; (focus (decide +kernel; done)); with_reducible conv => whnf))))
/-! contents; what stands while the law runs -/
def sortIt (it : It) : It := (So.sortS (keysT it)).map fun k => (k, (getT it k).getD "")
def sortSs (ss : Ss) : Ss := (So.sortI (keysT ss)).map fun c => (c, (getT ss c).getD (0, .non))
theorem con_is (it : It) : conI it = (sortIt it).map prW := by
  unfold conI sortIt
  rw [List.map_map]
  rfl
theorem rows_is (ss : Ss) : rowsS ss = (sortSs ss).map rwW := by
  unfold rowsS sortSs
  rw [List.map_map]
  rfl
theorem keys_map {κ α : Type} (ks : List κ) (f : κ → α) : keysT (ks.map fun k => (k, f k)) = ks := by
  unfold keysT
  rw [List.map_map]
  exact List.map_id' ks
theorem getT_map {κ α : Type} [DecidableEq κ] : ∀ (ks : List κ) (f : κ → α) (k : κ), getT (ks.map fun k => (k, f k)) k = if k ∈ ks then some (f k) else none
  | [], f, k => rfl
  | x :: ks, f, k => by
    rw [List.map_cons, getT_cons, getT_map ks f k]
    by_cases c : x = k
    · rw [if_pos c, if_pos (by rw [c]; exact List.mem_cons_self)]
      show some (f x) = some (f k)
      rw [c]
    · rw [if_neg c]
      by_cases d : k ∈ ks
      · rw [if_pos d, if_pos (List.mem_cons_of_mem _ d)]
      · rw [if_neg d, if_neg fun z => (List.mem_cons.mp z).elim (fun e => c e.symm) d]
theorem sortIt_get {it : It} (k : Str) : getT (sortIt it) k = getT it k := by
  unfold sortIt
  rw [getT_map]
  by_cases c : k ∈ So.sortS (keysT it)
  · rw [if_pos c]
    obtain ⟨v, ev⟩ := Option.isSome_iff_exists.mp ((srt_memS it k).mp c)
    rw [ev]
    rfl
  · rw [if_neg c]
    cases e : getT it k with
    | none => rfl
    | some v => exact absurd ((srt_memS it k).mpr (by rw [e]; rfl)) c
theorem sortSs_get {ss : Ss} (c : Int) : getT (sortSs ss) c = getT ss c := by
  unfold sortSs
  rw [getT_map]
  by_cases q : c ∈ So.sortI (keysT ss)
  · rw [if_pos q]
    obtain ⟨v, ev⟩ := Option.isSome_iff_exists.mp ((srt_memI ss c).mp q)
    rw [ev]
    rfl
  · rw [if_neg q]
    cases e : getT ss c with
    | none => rfl
    | some v => exact absurd ((srt_memI ss c).mpr (by rw [e]; rfl)) q
theorem sortIt_nd {it : It} (h : Nd it) : Nd (sortIt it) := by
  unfold Nd sortIt
  rw [keys_map]
  exact (So.sortS_perm _).nodup_iff.mpr h
theorem sortSs_nd {ss : Ss} (h : Nd ss) : Nd (sortSs ss) := by
  unfold Nd sortSs
  rw [keys_map]
  exact (So.sortI_perm _).nodup_iff.mpr h
theorem con_eq {a b : It} (ha : Nd a) (hb : Nd b) (h : ∀ k, getT a k = getT b k) : conI a = conI b := by
  unfold conI
  rw [sorted_keys ha hb h]
  refine List.map_congr_left fun k _ => ?_
  unfold pairW
  rw [h k]
theorem rows_eq {a b : Ss} (ha : Nd a) (hb : Nd b) (h : ∀ k, getT a k = getT b k) : rowsS a = rowsS b := by
  unfold rowsS
  rw [sorted_keysI ha hb h]
  refine List.map_congr_left fun k _ => ?_
  rw [h k]
theorem con_pairs {it : It} {lo : Str} {hi : Option Str} (hn : Nd it) (hv : ∀ k v, getT it k = some v → isKeyB k = true ∧ valS v = true) (hk : ∀ k, (getT it k).isSome = true → hasK lo hi k = true) :
    inPairs (.str lo) (oS hi) (.tup (conI it)) = true ∧ dp (.tup (conI it)) = true ∧ isDs 50 (conI it) = true := by
  have mem : ∀ k ∈ So.sortS (keysT it), (getT it k).isSome = true := fun k h => (srt_memS it k).mp h
  refine ⟨?_, dp_tupI (dps_map fun k h => pair_dp hv (mem k h)), isDs_map fun k _ => pair_D it k 49⟩
  unfold inPairs
  rw [show pairsB (.tup (conI it)) = true from ris_of hv (srt_lt hn) fun k h => ?_, Bool.true_and]
  · simp only
    rw [List.all_eq_true]
    intro w hw
    obtain ⟨k, hk', rfl⟩ := List.mem_map.mp hw
    have := hk k (mem k hk')
    cases hi with
    | none =>
      show (!sLt k lo && true) = true
      exact this
    | some y => exact this
  · obtain ⟨v, ev⟩ := Option.isSome_iff_exists.mp (mem k h)
    exact ⟨slt_nil2 (hv k v ev).1, mem k h⟩
end Q
namespace Q
open PySem L2
local macro_rules | `(tactic| walk_at "mu") => `(tactic| (repeat (first | exact mset_same | assumption | (rw [mset_ne]; rotate_left; (first | assumption | exact Ne.symm (by assumption))))))
local macro_rules | `(tactic| walk_at "lk") => `(tactic| (repeat (first | exact lk_hit | exact lk_nil | refine lk_skip (by decide +kernel) ?_)))
local macro_rules | `(tactic| walk_at "q") => `(tactic| ((with_reducible conv => whnf); repeat (first
  | (with_reducible refine q_t (by assumption) ?_; with_reducible conv => whnf)
  | (with_reducible refine q_f (by assumption) ?_; with_reducible conv => whnf)
  | (with_reducible refine q_t (by with_reducible rfl) ?_; with_reducible conv => whnf)
  | (with_reducible refine q_f (by with_reducible rfl) ?_; with_reducible conv => whnf)
  | (with_reducible refine q_t (by decide) ?_; with_reducible conv => whnf)
  | (with_reducible refine q_f (by decide) ?_; with_reducible conv => whnf)
  | (with_reducible refine q_t (decide_eq_true (by omega)) ?_; with_reducible conv => whnf)
  | (with_reducible refine q_f (decide_eq_false (by omega)) ?_; with_reducible conv => whnf)
  | (with_reducible refine q_f (q_nn (by omega)) ?_; with_reducible conv => whnf)
  | (with_reducible refine q_t (q_nt (by omega)) ?_; with_reducible conv => whnf)
  | (with_reducible refine q_len (by with_unfolding_all rfl) ?_; with_reducible conv => whnf)
  | (with_reducible refine q_leq (by with_unfolding_all rfl) ?_; with_reducible conv => whnf)
  | (with_reducible refine q_and (by first | assumption | exact True.intro | omega | (simp only [List.length_map, List.length_append, List.length_cons, List.length_nil]; omega) | decide) ?_; with_reducible conv => whnf)
  | (with_reducible refine q_le (by with_unfolding_all rfl) ?_; with_reducible conv => whnf)
  | (with_reducible refine q_and tyL_lst ?_; with_reducible conv => whnf)
  | (with_reducible refine q_and tyL_rol ?_; with_reducible conv => whnf)
  | (with_reducible refine q_and (tyL_ref (by walk_at "mu")) ?_; with_reducible conv => whnf)
  | (with_reducible refine q_and (tyD_ref (by walk_at "mu")) ?_; with_reducible conv => whnf)
  | (with_reducible refine q_and (rdD_ref (by walk_at "mu")) ?_; with_reducible conv => whnf)
  | (rw [pick_c0]; with_reducible conv => whnf)
  | (rw [pick_c1]; with_reducible conv => whnf)
  | (rw [pick_c2]; with_reducible conv => whnf)
  | (rw [pick_c3]; with_reducible conv => whnf)
  | (rw [pick_c4]; with_reducible conv => whnf)
  | (rw [pick_c5]; with_reducible conv => whnf)
  | (rw [mset_same]; with_reducible conv => whnf)
  | (rw [mset_ne (by assumption)]; with_reducible conv => whnf)
  | (rw [mset_ne]; rotate_left; (first | assumption | exact Ne.symm (by assumption)); with_reducible conv => whnf)
  | (rw [rdL_ref]; rotate_left; (focus (walk_at "mu"; done)); with_reducible conv => whnf)
  | (rw [rdL_refD]; rotate_left; (focus (walk_at "mu"; done)); with_reducible conv => whnf)
  | (rw [rdD_refD]; rotate_left; (focus (walk_at "mu"; done)); with_reducible conv => whnf)
  | (rw [rdM_ref]; rotate_left; (focus (walk_at "mu"; done)); with_reducible conv => whnf)
  | (rw [rdL_refK]; rotate_left; (focus (walk_at "mu"; done)); with_reducible conv => whnf)
  | (rw [rdD_refK]; rotate_left; (focus (walk_at "mu"; done)); with_reducible conv => whnf)
  | (rw [tyW_refL]; rotate_left; (focus (walk_at "mu"; done)); with_reducible conv => whnf)
  | (rw [tyW_refD]; rotate_left; (focus (walk_at "mu"; done)); with_reducible conv => whnf)
  | (rw [drf_ref]; rotate_left; (focus (walk_at "mu"; done)); with_reducible conv => whnf)
  | ((conv => (arg 2; tactic' => (walk_at "mu"; done))); with_reducible conv => whnf)
  | (with_reducible refine q_and (Eq.refl _) ?_; with_reducible conv => whnf)
  | (with_reducible refine q_and (MulO.r (by decide)) ?_; with_reducible conv => whnf)
  | (with_reducible refine q_and (MulO.l (by decide)) ?_; with_reducible conv => whnf)
  | (with_reducible refine q_and (MulO.r (by omega)) ?_; with_reducible conv => whnf)
  | (with_reducible refine q_and (MulO.l (by omega)) ?_; with_reducible conv => whnf)
  | (with_reducible refine q_pow (by decide) ?_; with_reducible conv => whnf)
  | (with_reducible refine q_nisT (by first | assumption | with_reducible rfl) ?_; with_reducible conv => whnf)
  | (with_reducible refine q_nisF (by first | assumption | with_reducible rfl) ?_; with_reducible conv => whnf)
  | (with_reducible refine q_eqI ?_; with_reducible conv => whnf)
  | (with_reducible refine q_eqS ?_; with_reducible conv => whnf)
  | (with_reducible refine q_eqB ?_; with_reducible conv => whnf)
  | (with_reducible refine q_neI ?_; with_reducible conv => whnf)
  | (with_reducible refine q_neS ?_; with_reducible conv => whnf)
  | (with_reducible refine q_neB ?_; with_reducible conv => whnf)
  | (with_reducible refine q_memc ?_; with_reducible conv => whnf)
  | (with_reducible refine q_lkn (by walk_at "lk") ?_; with_reducible conv => whnf)
  | (with_reducible refine q_tix (by walk_at "lk"; done) ?_; with_reducible conv => whnf)
  | (with_reducible refine q_tin ?_; with_reducible conv => whnf)
  | (rw [pf_hit]; with_reducible conv => whnf)
  | (rw [pf_skip]; rotate_left; (focus (decide +kernel; done)); with_reducible conv => whnf)
  | (rw [lk_hit]; with_reducible conv => whnf)
  | (rw [lk_skip1]; rotate_left; (focus (decide +kernel; done)); with_reducible conv => whnf))))
/-! clients that are none: what the law draws -/
theorem pick_in {l : List W} {i : Int} (h0 : 0 ≤ i) (h : i < l.length) : ∃ w, pick l i = some w ∧ w ∈ l := by
  have hk : i.toNat < l.length := by omega
  exact ⟨l[i.toNat], pick_nat h0 (List.getElem?_eq_getElem hk), List.getElem_mem hk⟩
theorem sp__law_cell_2 {ns : List Int} {k : Nat} {μ : Mu} {P : Po} {X : Xo} (h : ∀ i, P (.int i) μ) : f__law_cell_2 [.rol (ns.map W.int), .int k] μ P X := by
  rw [f__law_cell_2_eq]; unfold f__law_cell_2_B fDef
  refine ⟨rfl, ?_⟩
  walk_at "q"
  refine q_ifP (fun c => ?_) fun c => ?_
  · have hk : k < ns.length := by
      rw [List.length_map] at c
      omega
    have gp : pick (ns.map W.int) (k : Int) = some (.int ns[k]) := pick_mapN (List.getElem?_eq_getElem hk)
    walk_at "q"
    exact Rt.now (h _)
  · walk_at "q"
    exact Rt.now (h _)
theorem sp__law_rich {c k : Int} {μ : Mu} {P : Po} {X : Xo} (h : ∀ r : Int, P (.int r) μ) : f__law_rich [.int c, .int k] μ P X := by
  rw [f__law_rich_eq]; unfold f__law_rich_B fDef
  refine ⟨rfl, ?_⟩
  walk_at "q"
  refine q_if (fun c1 => ?_) fun c1 => ?_
  · walk_at "q"
    exact Rt.now (h _)
  · walk_at "q"
    exact Rt.now (h _)
theorem pick_str {l : List Str} {i : Int} (h0 : 0 ≤ i) (h : i < l.length) : ∃ z ∈ l, pick (l.map W.str) i = some (.str z) := by
  obtain ⟨w, h1, h2⟩ := pick_in (l := l.map W.str) h0 (by rw [List.length_map]; exact h)
  obtain ⟨j, h3, rfl⟩ := List.mem_map.mp h2
  exact ⟨j, h3, h1⟩
/-- scalars -/
def sc : W → Bool
  | .non | .bl _ | .int _ => true
  | .str z => decide (z.length ≤ 100)
  | _ => false
end Q
namespace Q
open PySem L2
local macro_rules | `(tactic| walk_at "mu") => `(tactic| (repeat (first | exact mset_same | assumption | (rw [mset_ne]; rotate_left; (first | assumption | exact Ne.symm (by assumption))))))
local macro_rules | `(tactic| walk_at "lk") => `(tactic| (repeat (first | exact lk_hit | exact lk_nil | refine lk_skip (by decide +kernel) ?_)))
local macro_rules | `(tactic| walk_at "pf") => `(tactic| (repeat (first | rw [pf_nil] | rw [pf_hit] | (rw [pf_skip]; rotate_left; (focus (decide +kernel; done))))))
local macro_rules | `(tactic| walk_at "q") => `(tactic| ((with_reducible conv => whnf); repeat (first
  | (with_reducible refine q_t (by assumption) ?_; with_reducible conv => whnf)
  | (with_reducible refine q_f (by assumption) ?_; with_reducible conv => whnf)
  | (with_reducible refine q_t (by with_reducible rfl) ?_; with_reducible conv => whnf)
  | (with_reducible refine q_f (by with_reducible rfl) ?_; with_reducible conv => whnf)
  | (with_reducible refine q_t (by decide) ?_; with_reducible conv => whnf)
  | (with_reducible refine q_f (by decide) ?_; with_reducible conv => whnf)
  | (with_reducible refine q_t (decide_eq_true (by omega)) ?_; with_reducible conv => whnf)
  | (with_reducible refine q_f (decide_eq_false (by omega)) ?_; with_reducible conv => whnf)
  | (with_reducible refine q_f (q_nn (by omega)) ?_; with_reducible conv => whnf)
  | (with_reducible refine q_t (q_nt (by omega)) ?_; with_reducible conv => whnf)
  | (with_reducible refine q_len (by with_unfolding_all rfl) ?_; with_reducible conv => whnf)
  | (with_reducible refine q_leq (by with_unfolding_all rfl) ?_; with_reducible conv => whnf)
  | (with_reducible refine q_and (by first | assumption | exact True.intro | omega | (simp only [List.length_map, List.length_append, List.length_cons, List.length_nil]; omega) | decide) ?_; with_reducible conv => whnf)
  | (with_reducible refine q_le (by with_unfolding_all rfl) ?_; with_reducible conv => whnf)
  | (with_reducible refine q_and tyL_lst ?_; with_reducible conv => whnf)
  | (with_reducible refine q_and tyL_rol ?_; with_reducible conv => whnf)
  | (with_reducible refine q_and (tyL_ref (by walk_at "mu")) ?_; with_reducible conv => whnf)
  | (with_reducible refine q_and (tyD_ref (by walk_at "mu")) ?_; with_reducible conv => whnf)
  | (with_reducible refine q_and (rdD_ref (by walk_at "mu")) ?_; with_reducible conv => whnf)
  | (rw [pick_c0]; with_reducible conv => whnf)
  | (rw [pick_c1]; with_reducible conv => whnf)
  | (rw [pick_c2]; with_reducible conv => whnf)
  | (rw [pick_c3]; with_reducible conv => whnf)
  | (rw [pick_c4]; with_reducible conv => whnf)
  | (rw [pick_c5]; with_reducible conv => whnf)
  | (rw [mset_same]; with_reducible conv => whnf)
  | (rw [mset_ne (by assumption)]; with_reducible conv => whnf)
  | (rw [mset_ne]; rotate_left; (first | assumption | exact Ne.symm (by assumption)); with_reducible conv => whnf)
  | (rw [rdL_ref]; rotate_left; (focus (walk_at "mu"; done)); with_reducible conv => whnf)
  | (rw [rdL_refD]; rotate_left; (focus (walk_at "mu"; done)); with_reducible conv => whnf)
  | (rw [rdD_refD]; rotate_left; (focus (walk_at "mu"; done)); with_reducible conv => whnf)
  | (rw [rdM_ref]; rotate_left; (focus (walk_at "mu"; done)); with_reducible conv => whnf)
  | (rw [rdL_refK]; rotate_left; (focus (walk_at "mu"; done)); with_reducible conv => whnf)
  | (rw [rdD_refK]; rotate_left; (focus (walk_at "mu"; done)); with_reducible conv => whnf)
  | (rw [tyW_refL]; rotate_left; (focus (walk_at "mu"; done)); with_reducible conv => whnf)
  | (rw [tyW_refD]; rotate_left; (focus (walk_at "mu"; done)); with_reducible conv => whnf)
  | (rw [drf_ref]; rotate_left; (focus (walk_at "mu"; done)); with_reducible conv => whnf)
  | ((conv => (arg 2; tactic' => (walk_at "mu"; done))); with_reducible conv => whnf)
  | (with_reducible refine q_and (Eq.refl _) ?_; with_reducible conv => whnf)
  | (with_reducible refine q_and (MulO.r (by decide)) ?_; with_reducible conv => whnf)
  | (with_reducible refine q_and (MulO.l (by decide)) ?_; with_reducible conv => whnf)
  | (with_reducible refine q_and (MulO.r (by omega)) ?_; with_reducible conv => whnf)
  | (with_reducible refine q_and (MulO.l (by omega)) ?_; with_reducible conv => whnf)
  | (with_reducible refine q_pow (by decide) ?_; with_reducible conv => whnf)
  | (with_reducible refine q_nisT (by first | assumption | with_reducible rfl) ?_; with_reducible conv => whnf)
  | (with_reducible refine q_nisF (by first | assumption | with_reducible rfl) ?_; with_reducible conv => whnf)
  | (with_reducible refine q_eqI ?_; with_reducible conv => whnf)
  | (with_reducible refine q_eqS ?_; with_reducible conv => whnf)
  | (with_reducible refine q_eqB ?_; with_reducible conv => whnf)
  | (with_reducible refine q_neI ?_; with_reducible conv => whnf)
  | (with_reducible refine q_neS ?_; with_reducible conv => whnf)
  | (with_reducible refine q_neB ?_; with_reducible conv => whnf)
  | (with_reducible refine q_memc ?_; with_reducible conv => whnf)
  | (with_reducible refine q_lkn (by walk_at "lk") ?_; with_reducible conv => whnf)
  | (with_reducible refine q_tix (by walk_at "lk"; done) ?_; with_reducible conv => whnf)
  | (with_reducible refine q_tin ?_; with_reducible conv => whnf)
  | (rw [pf_hit]; with_reducible conv => whnf)
  | (rw [pf_skip]; rotate_left; (focus (decide +kernel; done)); with_reducible conv => whnf)
  | (rw [lk_hit]; with_reducible conv => whnf)
  | (rw [lk_skip1]; rotate_left; (focus (decide +kernel; done)); with_reducible conv => whnf))))
/-! what the laws draw: keys, values, operations -/
section
variable {μ : Mu} {P : Po} {X : Xo}
theorem sp_wordC {n : Nat} {z : Str} {i : Int} (hn : n ≤ 100) (h0 : 0 < z.length) (hz : z.length ≤ 1000) (h : ∀ x : Str, x.length = n → (∀ c ∈ x.cps.toList, c ∈ z.cps.toList) → P (.str x) μ) : f__law_word [.int n, .str z, .int i] μ P X := by
  rw [f__law_word_eq]; unfold f__law_word_B fDef
  refine ⟨rfl, ?_⟩
  walk_at "q"
  rw [Int.toNat_natCast]
  refine itS_nums (fun k ρ μ' => μ' = μ ∧ ∃ (x : Str) (j : Int) (x5 : Option W), x.length = k ∧ (∀ c ∈ x.cps.toList, c ∈ z.cps.toList) ∧ ρ = [some (.int n), some (.str z), some (.int i), some (.str x), some (.int j), x5]) ⟨rfl, "", i, none, rfl, (by intro c hc; cases hc), rfl⟩ (by intros; trivial) ?_ ?_
  · rintro k hk ρ μ' ⟨rfl, x, j, x5, hx, hc, rfl⟩ K hK
    have h1 : 0 ≤ j % (z.length : Int) := Int.emod_nonneg _ (by omega)
    have h2 : j % (z.length : Int) < (z.length : Int) := Int.emod_lt_of_pos _ (by omega)
    have hk2 : (j % (z.length : Int)).toNat < z.cps.toList.length := by
      have : z.cps.toList.length = z.length := rfl
      omega
    have gp : pick z.cps.toList (j % (z.length : Int)) = some z.cps.toList[(j % (z.length : Int)).toNat] := pick_nat h1 (List.getElem?_eq_getElem hk2)
    have hz2 : z.length ≤ 16000000 := by omega
    have gm : z.cps.toList[(j % (z.length : Int)).toNat] ∈ z.cps.toList := List.getElem_mem hk2
    revert gp gm
    generalize z.cps.toList[(j % (z.length : Int)).toNat] = c
    intro gp gm
    have hxl : x.length + (⟨#[c]⟩ : Str).length ≤ 16000000 := by
      show x.length + 1 ≤ _
      omega
    have hd1 : 0 < (z.length : Int) ∧ (z.length : Int) < 1073741824 := by omega
    walk_at "q"
    refine hK _ _ ⟨rfl, x ++ ⟨#[c]⟩, _, _, ?_, fun d hd => ?_, rfl⟩
    · show (x.cps ++ #[c]).size = _
      rw [Array.size_append]
      exact congrArg (· + 1) hx
    · have hd : d ∈ (x.cps ++ #[c]).toList := hd
      rw [Array.toList_append] at hd
      rcases List.mem_append.mp hd with q | q
      · exact hc d q
      · rw [List.mem_singleton.mp q]
        exact gm
  · rintro ρ μ' ⟨rfl, x, j, x5, hx, hc, rfl⟩
    walk_at "q"
    exact Rt.now (h x hx hc)
theorem sp_keyC {i : Int} (h : ∀ x : Str, isKeyB x = true → P (.str x) μ) : f__law_key [.int i] μ P X := by
  rw [f__law_key_eq]; unfold f__law_key_B fDef
  refine ⟨rfl, ?_⟩
  obtain ⟨z, hz, hj⟩ := pick_str (l := ["a", "b", "c", "d", "k", "m", "kk", "z"]) (i := i / 4 % 8) (by omega) (by show i / 4 % 8 < 8; omega)
  have hl : ∀ x ∈ (["a", "b", "c", "d", "k", "m", "kk", "z"] : List Str), isKeyB x = true := by decide +kernel
  walk_at "q"
  refine q_ifP (fun c => ?_) fun c => ?_
  · walk_at "q"
    exact Rt.now (h z (hl z hz))
  · obtain ⟨n, hn, hn1, hn2⟩ : ∃ n : Nat, 1 + i / 4 % 8 = (n : Int) ∧ 1 ≤ n ∧ n ≤ 8 := ⟨(1 + i / 4 % 8).toNat, by omega, by omega, by omega⟩
    walk_at "q"
    rw [hn]
    refine sp_wordC (by omega) (by decide +kernel) (by decide +kernel) fun x hx hc => ?_
    refine Rt.now (h x ?_)
    unfold isKeyB
    rw [decide_eq_true (show 1 ≤ x.length ∧ x.length ≤ 8 by omega), Bool.true_and, List.all_eq_true]
    intro c hcx
    have hm := hc c hcx
    have key : ∀ c ∈ ("abcdefghijklmnopqrstuvwxyz" : Str).cps.toList, decide (97 ≤ c ∧ c ≤ 122) = true := by decide +kernel
    exact key c hm
theorem sp_boundC {i : Int} (h : ∀ x : Str, (isKeyB x || decide (x = "")) = true → P (.str x) μ) : f__law_bound [.int i] μ P X := by
  rw [f__law_bound_eq]; unfold f__law_bound_B fDef
  refine ⟨rfl, ?_⟩
  walk_at "q"
  refine q_ifP (fun c => ?_) fun c => ?_
  · walk_at "q"
    exact Rt.now (h _ (by decide +kernel))
  · walk_at "q"
    refine sp_keyC fun x hx => ?_
    exact Rt.now (h x (by rw [hx]; rfl))
theorem sp_valueC {i : Int} (h : ∀ x : Str, valS x = true → P (.str x) μ) : f__law_value [.int i] μ P X := by
  rw [f__law_value_eq]; unfold f__law_value_B fDef
  refine ⟨rfl, ?_⟩
  obtain ⟨z, hz, hj⟩ := pick_str (l := ["x", "y", ""]) (i := i / 4 % 3) (by omega) (by show i / 4 % 3 < 3; omega)
  have hl : ∀ x ∈ (["x", "y", ""] : List Str), valS x = true := by decide +kernel
  walk_at "q"
  refine q_ifP (fun c => ?_) fun c => ?_
  · walk_at "q"
    exact Rt.now (h z (hl z hz))
  · obtain ⟨n, hn, hn2⟩ : ∃ n : Nat, i / 4 % 41 = (n : Int) ∧ n ≤ 40 := ⟨(i / 4 % 41).toNat, by omega, by omega⟩
    walk_at "q"
    rw [hn]
    refine sp_wordC (by omega) (by decide +kernel) (by decide +kernel) fun x hx hc => ?_
    refine Rt.now (h x ?_)
    unfold valS printB
    rw [decide_eq_true (show x.length ≤ 40 by omega), Bool.and_true, List.all_eq_true]
    intro c hcx
    have hm := hc c hcx
    have key : ∀ c ∈ (" !\"#$&'()*+,-./0123456789:;<=>?@ABCDEFGHIJKLMNOPQRSTUVWXYZ[\\]^_`abcdefghijklmnopqrstuvwxyz{|}~" : Str).cps.toList, signB c = true := by decide +kernel
    exact key c hm
end
end Q
namespace Q
open PySem L2
local macro_rules | `(tactic| walk_at "mu") => `(tactic| (repeat (first | exact mset_same | assumption | (rw [mset_ne]; rotate_left; (first | assumption | exact Ne.symm (by assumption))))))
local macro_rules | `(tactic| walk_at "lk") => `(tactic| (repeat (first | exact lk_hit | exact lk_nil | refine lk_skip (by decide +kernel) ?_)))
local macro_rules | `(tactic| walk_at "pf") => `(tactic| (repeat (first | rw [pf_nil] | rw [pf_hit] | (rw [pf_skip]; rotate_left; (focus (decide +kernel; done))))))
local macro_rules | `(tactic| walk_at "q") => `(tactic| ((with_reducible conv => whnf); repeat (first
  | (with_reducible refine q_t (by assumption) ?_; with_reducible conv => whnf)
  | (with_reducible refine q_f (by assumption) ?_; with_reducible conv => whnf)
  | (with_reducible refine q_t (by with_reducible rfl) ?_; with_reducible conv => whnf)
  | (with_reducible refine q_f (by with_reducible rfl) ?_; with_reducible conv => whnf)
  | (with_reducible refine q_t (by decide) ?_; with_reducible conv => whnf)
  | (with_reducible refine q_f (by decide) ?_; with_reducible conv => whnf)
  | (with_reducible refine q_t (decide_eq_true (by omega)) ?_; with_reducible conv => whnf)
  | (with_reducible refine q_f (decide_eq_false (by omega)) ?_; with_reducible conv => whnf)
  | (with_reducible refine q_f (q_nn (by omega)) ?_; with_reducible conv => whnf)
  | (with_reducible refine q_t (q_nt (by omega)) ?_; with_reducible conv => whnf)
  | (with_reducible refine q_len (by with_unfolding_all rfl) ?_; with_reducible conv => whnf)
  | (with_reducible refine q_leq (by with_unfolding_all rfl) ?_; with_reducible conv => whnf)
  | (with_reducible refine q_and (by first | assumption | exact True.intro | omega | (simp only [List.length_map, List.length_append, List.length_cons, List.length_nil]; omega) | decide) ?_; with_reducible conv => whnf)
  | (with_reducible refine q_le (by with_unfolding_all rfl) ?_; with_reducible conv => whnf)
  | (with_reducible refine q_and tyL_lst ?_; with_reducible conv => whnf)
  | (with_reducible refine q_and tyL_rol ?_; with_reducible conv => whnf)
  | (with_reducible refine q_and (tyL_ref (by walk_at "mu")) ?_; with_reducible conv => whnf)
  | (with_reducible refine q_and (tyD_ref (by walk_at "mu")) ?_; with_reducible conv => whnf)
  | (with_reducible refine q_and (rdD_ref (by walk_at "mu")) ?_; with_reducible conv => whnf)
  | (rw [pick_c0]; with_reducible conv => whnf)
  | (rw [pick_c1]; with_reducible conv => whnf)
  | (rw [pick_c2]; with_reducible conv => whnf)
  | (rw [pick_c3]; with_reducible conv => whnf)
  | (rw [pick_c4]; with_reducible conv => whnf)
  | (rw [pick_c5]; with_reducible conv => whnf)
  | (rw [mset_same]; with_reducible conv => whnf)
  | (rw [mset_ne (by assumption)]; with_reducible conv => whnf)
  | (rw [mset_ne]; rotate_left; (first | assumption | exact Ne.symm (by assumption)); with_reducible conv => whnf)
  | (rw [rdL_ref]; rotate_left; (focus (walk_at "mu"; done)); with_reducible conv => whnf)
  | (rw [rdL_refD]; rotate_left; (focus (walk_at "mu"; done)); with_reducible conv => whnf)
  | (rw [rdD_refD]; rotate_left; (focus (walk_at "mu"; done)); with_reducible conv => whnf)
  | (rw [rdM_ref]; rotate_left; (focus (walk_at "mu"; done)); with_reducible conv => whnf)
  | (rw [rdL_refK]; rotate_left; (focus (walk_at "mu"; done)); with_reducible conv => whnf)
  | (rw [rdD_refK]; rotate_left; (focus (walk_at "mu"; done)); with_reducible conv => whnf)
  | (rw [tyW_refL]; rotate_left; (focus (walk_at "mu"; done)); with_reducible conv => whnf)
  | (rw [tyW_refD]; rotate_left; (focus (walk_at "mu"; done)); with_reducible conv => whnf)
  | (rw [drf_ref]; rotate_left; (focus (walk_at "mu"; done)); with_reducible conv => whnf)
  | ((conv => (arg 2; tactic' => (walk_at "mu"; done))); with_reducible conv => whnf)
  | (with_reducible refine q_and (Eq.refl _) ?_; with_reducible conv => whnf)
  | (with_reducible refine q_and (MulO.r (by decide)) ?_; with_reducible conv => whnf)
  | (with_reducible refine q_and (MulO.l (by decide)) ?_; with_reducible conv => whnf)
  | (with_reducible refine q_and (MulO.r (by omega)) ?_; with_reducible conv => whnf)
  | (with_reducible refine q_and (MulO.l (by omega)) ?_; with_reducible conv => whnf)
  | (with_reducible refine q_pow (by decide) ?_; with_reducible conv => whnf)
  | (with_reducible refine q_nisT (by first | assumption | with_reducible rfl) ?_; with_reducible conv => whnf)
  | (with_reducible refine q_nisF (by first | assumption | with_reducible rfl) ?_; with_reducible conv => whnf)
  | (with_reducible refine q_eqI ?_; with_reducible conv => whnf)
  | (with_reducible refine q_eqS ?_; with_reducible conv => whnf)
  | (with_reducible refine q_eqB ?_; with_reducible conv => whnf)
  | (with_reducible refine q_neI ?_; with_reducible conv => whnf)
  | (with_reducible refine q_neS ?_; with_reducible conv => whnf)
  | (with_reducible refine q_neB ?_; with_reducible conv => whnf)
  | (with_reducible refine q_memc ?_; with_reducible conv => whnf)
  | (with_reducible refine q_lkn (by walk_at "lk") ?_; with_reducible conv => whnf)
  | (with_reducible refine q_tix (by walk_at "lk"; done) ?_; with_reducible conv => whnf)
  | (with_reducible refine q_tin ?_; with_reducible conv => whnf)
  | (rw [pf_hit]; with_reducible conv => whnf)
  | (rw [pf_skip]; rotate_left; (focus (decide +kernel; done)); with_reducible conv => whnf)
  | (rw [lk_hit]; with_reducible conv => whnf)
  | (rw [lk_skip1]; rotate_left; (focus (decide +kernel; done)); with_reducible conv => whnf))))
/-! contents that are spoilt: bounds, ranges, rising rows, as the law tells them -/
section
variable {μ : Mu} {P : Po} {X : Xo}
def abc : Str := "abcdefghijklmnopqrstuvwxyz"
theorem abc_mem (c : Nat) : decide (c ∈ abc.cps.toList) = decide (97 ≤ c ∧ c ≤ 122) := by
  have key : ∀ c ∈ abc.cps.toList, 97 ≤ c ∧ c ≤ 122 := by decide +kernel
  have back : ∀ c : Nat, c < 26 → (97 + c) ∈ abc.cps.toList := by decide +kernel
  refine decide_eq_decide.mpr ⟨key c, fun h => ?_⟩
  have := back (c - 97) (by omega)
  rwa [show 97 + (c - 97) = c by omega] at this
theorem boundW_str (z : Str) : boundW (.str z) = (decide (z.length ≤ 8) && z.cps.toList.all fun c => decide (97 ≤ c ∧ c ≤ 122)) := by
  show (isKeyB z || decide (z = "")) = _
  by_cases c : z = ""
  · subst c
    decide +kernel
  · have hl : 1 ≤ z.length := by
      rcases Nat.eq_zero_or_pos z.length with e | e
      · exfalso
        apply c
        obtain ⟨cps⟩ := z
        have : cps = #[] := Array.size_eq_zero_iff.mp e
        rw [this]
        rfl
      · exact e
    rw [decide_eq_false c, Bool.or_false]
    unfold isKeyB
    by_cases d : z.length ≤ 8
    · rw [decide_eq_true d, decide_eq_true ⟨hl, d⟩]
    · rw [decide_eq_false d, decide_eq_false fun q => d q.2]
theorem sp_lbound {w : W} (hp : pl w = true) (h : P (.bl (boundW w)) μ) : f__law_is_bound [w] μ P X := by
  rw [f__law_is_bound_eq]; unfold f__law_is_bound_B fDef
  refine ⟨rfl, ?_⟩
  cases w with
  | str z =>
    have hz : z.length ≤ 16000000 := of_decide_eq_true hp
    rw [boundW_str] at h
    walk_at "q"
    refine q_ifP (fun c => ?_) fun c => ?_
    · rw [decide_eq_false (by omega), Bool.false_and] at h
      walk_at "q"
      exact Rt.now h
    · rw [decide_eq_true (by omega), Bool.true_and] at h
      walk_at "q"
      refine lcV_m (fun c : Nat => W.str ⟨#[c]⟩) (fun c => W.bl (decide (97 ≤ c ∧ c ≤ 122))) z.cps.toList hz (fun _ _ => trivial) (fun c hc μ' hx Y hy => ?_) ?_
      · have hy : Y (.bl (decide (c ∈ abc.cps.toList))) μ' := by rw [abc_mem]; exact hy
        walk_at "q"
        exact hy
      · walk_at "q"
        refine ⟨z.cps.toList.map fun c => decide (97 ≤ c ∧ c ≤ 122), by rw [List.map_map]; rfl, ?_⟩
        refine Rt.now ?_
        rw [List.all_map]
        exact h
  | non =>
    walk_at "q"
    exact Rt.now h
  | bl b =>
    walk_at "q"
    exact Rt.now h
  | int i =>
    walk_at "q"
    exact Rt.now h
  | tup us =>
    walk_at "q"
    exact Rt.now h
  | lst us =>
    walk_at "q"
    exact Rt.now h
  | _ => cases hp
theorem bnd_len {x : Str} (h : (isKeyB x || decide (x = "")) = true) : x.length ≤ 8 := by
  have e := boundW_str x
  rw [show boundW (.str x) = (isKeyB x || decide (x = "")) from rfl, h] at e
  exact of_decide_eq_true (Bool.and_eq_true_iff.mp e.symm).1
theorem min_max_lt {x y : Str} (h : x ≠ y) : sLt (So.sMin x y) (So.sMax x y) = true := by
  unfold So.sMin So.sMax
  by_cases c : sLt x y = true
  · have c2 : sLt y x = false := So.sLt_as c
    simp [c, c2]
  · have c : sLt x y = false := by simpa using c
    have d : sLt y x = true := by
      cases d : sLt y x with
      | true => rfl
      | false => exact absurd (le_antis c d) h
    simp [c, d]
theorem min_bnd {x y : Str} (hx : (isKeyB x || decide (x = "")) = true) (hy : (isKeyB y || decide (y = "")) = true) : (isKeyB (So.sMin x y) || decide (So.sMin x y = "")) = true := by
  unfold So.sMin
  split <;> assumption
theorem max_bnd {x y : Str} (hx : (isKeyB x || decide (x = "")) = true) (hy : (isKeyB y || decide (y = "")) = true) : (isKeyB (So.sMax x y) || decide (So.sMax x y = "")) = true := by
  unfold So.sMax
  split <;> assumption
theorem sp_lrange {i : Int} (h : ∀ lo hi, rngB lo hi = true → P (.tup [.str lo, oS hi]) μ) : f__law_range_2 [.int i] μ P X := by
  rw [f__law_range_2_eq]; unfold f__law_range_2_B fDef
  refine ⟨rfl, ?_⟩
  walk_at "q"
  refine sp_boundC fun x hx => ?_
  walk_at "q"
  refine sp_boundC fun y hy => ?_
  walk_at "q"
  have one : P (.tup [.str x, .non]) μ := h x none (rng_mk hx fun y hy => by cases hy)
  refine q_ifP (fun c => ?_) fun c => ?_
  · walk_at "q"
    exact Rt.now one
  · walk_at "q"
    refine q_ifP (fun c2 => ?_) fun c2 => ?_
    · walk_at "q"
      exact Rt.now one
    · walk_at "q"
      refine Rt.now (h (So.sMin x y) (some (So.sMax x y)) (rng_mk (min_bnd hx hy) fun z hz => ?_))
      cases hz
      have lt := min_max_lt c
      refine ⟨?_, lt⟩
      rcases Bool.or_eq_true_iff.mp (max_bnd hx hy) with k | k
      · exact k
      · rw [of_decide_eq_true k, slt_nilS] at lt
        cases lt
/-- what a law fills a shard with -/
structure Fil (h : Sh) (n : Nat) : Prop where
  r : rngB h.lo h.hi = true
  e : epB h.ep = true
  nd : Nd h.it
  kv : ∀ k v, getT h.it k = some v → isKeyB k = true ∧ valS v = true
  inn : ∀ k, (getT h.it k).isSome = true → hasK h.lo h.hi k = true
  len : h.it.length ≤ n
  nds : Nd h.ss
  ses : ∀ c x, getT h.ss c = some x → -4 ≤ c ∧ c ≤ -1 ∧ 4 ≤ x.1 ∧ x.1 ≤ 3 + (n : Int) ∧ x.2 = doneW
  slen : h.ss.length ≤ n
theorem Fil.put {h : Sh} {n : Nat} (f : Fil h n) {k v : Str} {c : Int} (hk : isKeyB k = true) (hv : valS v = true) (hn : hasK h.lo h.hi k = true) (c1 : -4 ≤ c) (c2 : c ≤ -1) : Fil { h with it := putT h.it k v, ss := putT h.ss c (4 + (n : Int), doneW) } (n + 1) where
  r := f.r
  e := f.e
  nd := nd_put f.nd k v
  kv := fun k' v' g => by
    have g : getT (putT h.it k v) k' = some v' := g
    rw [getT_put] at g
    split at g
    · rename_i e
      cases g
      exact ⟨e ▸ hk, hv⟩
    · exact f.kv k' v' g
  inn := fun k' g => by
    have g : (getT (putT h.it k v) k').isSome = true := g
    rw [getT_put] at g
    split at g
    · rename_i e
      exact e ▸ hn
    · exact f.inn k' g
  len := by
    have := putT_len h.it k v
    have := f.len
    show (putT h.it k v).length ≤ n + 1
    omega
  nds := nd_put f.nds c _
  ses := fun c' x g => by
    have g : getT (putT h.ss c (4 + (n : Int), doneW)) c' = some x := g
    rw [getT_put] at g
    split at g
    · rename_i e
      cases g
      refine ⟨by omega, by omega, ?_, ?_, rfl⟩
      · show 4 ≤ 4 + (n : Int)
        omega
      · show 4 + (n : Int) ≤ 3 + ((n + 1 : Nat) : Int)
        omega
    · obtain ⟨h1, h2, h3, h4, h5⟩ := f.ses c' x g
      exact ⟨h1, h2, h3, by omega, h5⟩
  slen := by
    have := putT_len h.ss c (4 + (n : Int), doneW)
    have := f.slen
    show (putT h.ss c (4 + (n : Int), doneW)).length ≤ n + 1
    omega
theorem Fil.mono {h : Sh} {n : Nat} (f : Fil h n) : Fil h (n + 1) := ⟨f.r, f.e, f.nd, f.kv, f.inn, Nat.le_succ_of_le f.len, f.nds, fun c x g => by
  obtain ⟨h1, h2, h3, h4, h5⟩ := f.ses c x g
  exact ⟨h1, h2, h3, by omega, h5⟩, Nat.le_succ_of_le f.slen⟩
theorem low_key {lo : Str} {hi : Option Str} (h : rngB lo hi = true) : isKeyB (if lo ≠ "" then lo else "a") = true := by
  by_cases c : lo = ""
  · rw [if_neg (by simpa using c)]
    decide +kernel
  · rw [if_pos c]
    rcases Bool.or_eq_true_iff.mp (rng_low h) with k | k
    · exact k
    · exact absurd (of_decide_eq_true k) c
theorem sp_lfilled {ns : List Int} {lo : Str} {hi : Option Str} {ep : Int} (hl : ns.length ≤ 63) (hr : rngB lo hi = true) (he : epB ep = true) (k : ∀ μ' a h, ShAt μ' a h → Fil h 20 → h.lo = lo → h.hi = hi → h.ep = ep → P (.ref a.s) μ') : f__law_filled [.rol (ns.map W.int), .int 3, .str lo, oS hi, .int ep] μ P X := by
  rw [f__law_filled_eq]; unfold f__law_filled_B fDef
  refine ⟨rfl, ?_⟩
  walk_at "q"
  intro s hs
  refine sp_ShInit hr he hs fun i e l n1 n2 n3 n4 n5 n6 hi0 he0 hl0 => ?_
  have base : ShAt (mset (mset (mset (mset μ i (.dk [])) l (.dk [])) e (sesO l)) s (shO lo hi ep i e)) ⟨s, i, e, l⟩ ⟨lo, hi, ep, [], []⟩ := by
    refine ⟨mset_same, ?_, ?_, ?_, Ne.symm n5⟩
    · show mset _ _ _ i = _
      rw [mset_ne n1, mset_ne (Ne.symm n4), mset_ne (Ne.symm n5), mset_same]
      rfl
    · show mset _ _ _ e = _
      rw [mset_ne n2, mset_same]
    · show mset _ _ _ l = _
      rw [mset_ne n3, mset_ne n6, mset_same]
      rfl
  revert base
  generalize mset (mset (mset (mset μ i (.dk [])) l (.dk [])) e (sesO l)) s (shO lo hi ep i e) = μ1
  intro base
  have f0 : Fil ⟨lo, hi, ep, [], []⟩ 0 := by
    refine ⟨hr, he, nd_nil, fun k v g => ?_, fun k g => ?_, Nat.le_refl _, nd_nil, fun c x g => ?_, Nat.le_refl _⟩
    · cases g
    · cases g
    · cases g
  have cnt : (min (((List.map W.int ns).length : Nat) : Int) (3 + 20) - 3).toNat ≤ 20 := by omega
  have cnt2 : (min (((List.map W.int ns).length : Nat) : Int) (3 + 20) - 3).toNat + 3 ≤ ns.length ∨ (min (((List.map W.int ns).length : Nat) : Int) (3 + 20) - 3).toNat = 0 := by
    rw [List.length_map]
    omega
  walk_at "q"
  revert cnt cnt2
  generalize (min (((List.map W.int ns).length : Nat) : Int) (3 + 20) - 3).toNat = N
  intro cnt cnt2
  refine itS_nums (fun m ρ μ' => ∃ (h : Sh) (x6 x7 x8 : Option W), ShAt μ' ⟨s, i, e, l⟩ h ∧ Fil h m ∧ h.lo = lo ∧ h.hi = hi ∧ h.ep = ep ∧ ρ = [some (.rol (ns.map W.int)), some (.int 3), some (.str lo), some (oS hi), some (.int ep), some (.ref s), x6, x7, x8]) ⟨_, none, none, none, base, f0, rfl, rfl, rfl, rfl⟩ (by intros; trivial) ?_ ?_
  · rintro m hm ρ μ' ⟨h, x6, x7, x8, g, f, e1, e2, e3, rfl⟩ K hK
    have hm2 : 3 + m < ns.length := by omega
    have p1 : pick (ns.map W.int) (3 + (m : Int)) = some (.int ns[3 + m]) := by
      have := pick_nat (xs := ns.map W.int) (i := 3 + (m : Int)) (x := W.int ns[3 + m]) (by omega) (by rw [show (3 + (m : Int)).toNat = 3 + m by omega, List.getElem?_map, List.getElem?_eq_getElem hm2]; rfl)
      exact this
    revert p1
    generalize ns[3 + m] = c0
    intro p1
    have gs : μ' s = some (.ins "Shard" [("low", .str h.lo), ("high", oS h.hi), ("epoch", .int h.ep), ("_items", .ref i), ("_sessions", .ref e)]) := g.s
    have fl : h.it.length < 1000000 := by
      have := f.len
      omega
    have fsl : h.ss.length < 1000000 := by
      have := f.slen
      omega
    walk_at "q"
    refine sp__law_rich fun r => ?_
    walk_at "q"
    refine sp_keyC fun z hz => ?_
    have tail : ∀ (z : Str), isKeyB z = true → ∀ N : En, N.nx = K → (sIf (cV (eMet "has" [("Shard", f_Shard_has)] (eV 5) (aCons (eV 8) (aNil)))) (sEx (eMet "serve" [("Shard", f_Shard_serve)] (eV 5) (aCons (eOp wSub (eUn wNeg (eC (.int 1))) (eOp wMod (eV 7) (eC (.int 4)))) (aCons (eOp wAdd (eC (.int 1)) (eV 6)) (aCons (eTup (aCons (eC (.str "put")) (aCons (eV 8) (aCons (eCall f__law_value (aCons (eOp wFdv (eV 7) (eC (.int 900))) (aNil))) (aNil))))) (aNil)))))) (sNx)) [some (.rol (ns.map W.int)), some (.int 3), some (.str lo), some (oS hi), some (.int ep), some (.ref s), some (.int (3 + (m : Int))), some (.int r), some (.str z)] μ' N := fun z hz N hN => by
      subst hN
      walk_at "q"
      refine sp_ShHas g ?_
      refine q_if (fun c => ?_) fun c => ?_
      · walk_at "q"
        refine sp_valueC fun v hv => ?_
        walk_at "q"
        refine sp_ShServe (op := .put z v) g ⟨hz, hv⟩ fl fsl (fun q => ?_) (fun _ _ => ?_) (fun _ x ex eq => ?_) fun _ x ex lt => ?_
        · exact absurd c (by rw [show hasK h.lo h.hi z = false from q]; simp)
        · rw [show (1 + (3 + (m : Int))) = 4 + (m : Int) by omega]
          walk_at "q"
          refine hK _ _ ⟨_, _, _, _, g.upd _ _, f.put hz hv c (by omega) (by omega), e1, e2, e3, rfl⟩
        · obtain ⟨_, _, _, q, _⟩ := f.ses _ x ex
          omega
        · obtain ⟨_, _, _, q, _⟩ := f.ses _ x ex
          omega
      · walk_at "q"
        refine hK _ _ ⟨h, _, _, _, g, f.mono, e1, e2, e3, rfl⟩
    have lk := low_key hr
    walk_at "q"
    refine q_jn (fun ρ' μ2 => μ2 = μ' ∧ ∃ z : Str, isKeyB z = true ∧ ρ' = [some (.rol (ns.map W.int)), some (.int 3), some (.str lo), some (oS hi), some (.int ep), some (.ref s), some (.int (3 + (m : Int))), some (.int r), some (.str z)]) (fun K2 hK2 => ?_) ?_
    · walk_at "q"
      refine sp_ShHas g ?_
      refine q_if (fun c => ?_) fun c => ?_
      · walk_at "q"
        refine q_ifN (fun c2 => ?_) fun c2 => ?_
        · walk_at "q"
          rw [if_neg (fun q => q c2)] at lk
          exact hK2 _ _ ⟨rfl, "a", lk, rfl⟩
        · walk_at "q"
          rw [if_pos c2] at lk
          exact hK2 _ _ ⟨rfl, lo, lk, rfl⟩
      · walk_at "q"
        exact hK2 _ _ ⟨rfl, z, hz, rfl⟩
    · rintro ρ' μ2 ⟨rfl, z, hz, rfl⟩
      exact tail z hz _ rfl
  · rintro ρ μ' ⟨h, x6, x7, x8, g, f, e1, e2, e3, rfl⟩
    have f20 : Fil h 20 := ⟨f.r, f.e, f.nd, f.kv, f.inn, Nat.le_trans f.len cnt, f.nds, fun c x gx => by
      obtain ⟨h1, h2, h3, h4, h5⟩ := f.ses c x gx
      exact ⟨h1, h2, h3, by omega, h5⟩, Nat.le_trans f.slen cnt⟩
    walk_at "q"
    exact Rt.now (k μ' ⟨s, i, e, l⟩ h g f20 e1 e2 e3)
end
end Q
namespace Q
open PySem L2
local macro_rules | `(tactic| walk_at "mu") => `(tactic| (repeat (first | exact mset_same | assumption | (rw [mset_ne]; rotate_left; (first | assumption | exact Ne.symm (by assumption))))))
local macro_rules | `(tactic| walk_at "lk") => `(tactic| (repeat (first | exact lk_hit | exact lk_nil | refine lk_skip (by decide +kernel) ?_)))
local macro_rules | `(tactic| walk_at "pf") => `(tactic| (repeat (first | rw [pf_nil] | rw [pf_hit] | (rw [pf_skip]; rotate_left; (focus (decide +kernel; done))))))
local macro_rules | `(tactic| walk_at "q") => `(tactic| ((with_reducible conv => whnf); repeat (first
  | (with_reducible refine q_t (by assumption) ?_; with_reducible conv => whnf)
  | (with_reducible refine q_f (by assumption) ?_; with_reducible conv => whnf)
  | (with_reducible refine q_t (by with_reducible rfl) ?_; with_reducible conv => whnf)
  | (with_reducible refine q_f (by with_reducible rfl) ?_; with_reducible conv => whnf)
  | (with_reducible refine q_t (by decide) ?_; with_reducible conv => whnf)
  | (with_reducible refine q_f (by decide) ?_; with_reducible conv => whnf)
  | (with_reducible refine q_t (decide_eq_true (by omega)) ?_; with_reducible conv => whnf)
  | (with_reducible refine q_f (decide_eq_false (by omega)) ?_; with_reducible conv => whnf)
  | (with_reducible refine q_f (q_nn (by omega)) ?_; with_reducible conv => whnf)
  | (with_reducible refine q_t (q_nt (by omega)) ?_; with_reducible conv => whnf)
  | (with_reducible refine q_len (by with_unfolding_all rfl) ?_; with_reducible conv => whnf)
  | (with_reducible refine q_leq (by with_unfolding_all rfl) ?_; with_reducible conv => whnf)
  | (with_reducible refine q_and (by first | assumption | exact True.intro | omega | (simp only [List.length_map, List.length_append, List.length_cons, List.length_nil]; omega) | decide) ?_; with_reducible conv => whnf)
  | (with_reducible refine q_le (by with_unfolding_all rfl) ?_; with_reducible conv => whnf)
  | (with_reducible refine q_and tyL_lst ?_; with_reducible conv => whnf)
  | (with_reducible refine q_and tyL_rol ?_; with_reducible conv => whnf)
  | (with_reducible refine q_and (tyL_ref (by walk_at "mu")) ?_; with_reducible conv => whnf)
  | (with_reducible refine q_and (tyD_ref (by walk_at "mu")) ?_; with_reducible conv => whnf)
  | (with_reducible refine q_and (rdD_ref (by walk_at "mu")) ?_; with_reducible conv => whnf)
  | (rw [pick_c0]; with_reducible conv => whnf)
  | (rw [pick_c1]; with_reducible conv => whnf)
  | (rw [pick_c2]; with_reducible conv => whnf)
  | (rw [pick_c3]; with_reducible conv => whnf)
  | (rw [pick_c4]; with_reducible conv => whnf)
  | (rw [pick_c5]; with_reducible conv => whnf)
  | (rw [mset_same]; with_reducible conv => whnf)
  | (rw [mset_ne (by assumption)]; with_reducible conv => whnf)
  | (rw [mset_ne]; rotate_left; (first | assumption | exact Ne.symm (by assumption)); with_reducible conv => whnf)
  | (rw [rdL_ref]; rotate_left; (focus (walk_at "mu"; done)); with_reducible conv => whnf)
  | (rw [rdL_refD]; rotate_left; (focus (walk_at "mu"; done)); with_reducible conv => whnf)
  | (rw [rdD_refD]; rotate_left; (focus (walk_at "mu"; done)); with_reducible conv => whnf)
  | (rw [rdM_ref]; rotate_left; (focus (walk_at "mu"; done)); with_reducible conv => whnf)
  | (rw [rdL_refK]; rotate_left; (focus (walk_at "mu"; done)); with_reducible conv => whnf)
  | (rw [rdD_refK]; rotate_left; (focus (walk_at "mu"; done)); with_reducible conv => whnf)
  | (rw [tyW_refL]; rotate_left; (focus (walk_at "mu"; done)); with_reducible conv => whnf)
  | (rw [tyW_refD]; rotate_left; (focus (walk_at "mu"; done)); with_reducible conv => whnf)
  | (rw [drf_ref]; rotate_left; (focus (walk_at "mu"; done)); with_reducible conv => whnf)
  | ((conv => (arg 2; tactic' => (walk_at "mu"; done))); with_reducible conv => whnf)
  | (with_reducible refine q_and (Eq.refl _) ?_; with_reducible conv => whnf)
  | (with_reducible refine q_and (MulO.r (by decide)) ?_; with_reducible conv => whnf)
  | (with_reducible refine q_and (MulO.l (by decide)) ?_; with_reducible conv => whnf)
  | (with_reducible refine q_and (MulO.r (by omega)) ?_; with_reducible conv => whnf)
  | (with_reducible refine q_and (MulO.l (by omega)) ?_; with_reducible conv => whnf)
  | (with_reducible refine q_pow (by decide) ?_; with_reducible conv => whnf)
  | (with_reducible refine q_nisT (by first | assumption | with_reducible rfl) ?_; with_reducible conv => whnf)
  | (with_reducible refine q_nisF (by first | assumption | with_reducible rfl) ?_; with_reducible conv => whnf)
  | (with_reducible refine q_eqI ?_; with_reducible conv => whnf)
  | (with_reducible refine q_eqS ?_; with_reducible conv => whnf)
  | (with_reducible refine q_eqB ?_; with_reducible conv => whnf)
  | (with_reducible refine q_neI ?_; with_reducible conv => whnf)
  | (with_reducible refine q_neS ?_; with_reducible conv => whnf)
  | (with_reducible refine q_neB ?_; with_reducible conv => whnf)
  | (with_reducible refine q_memc ?_; with_reducible conv => whnf)
  | (with_reducible refine q_lkn (by walk_at "lk") ?_; with_reducible conv => whnf)
  | (with_reducible refine q_tix (by walk_at "lk"; done) ?_; with_reducible conv => whnf)
  | (with_reducible refine q_tin ?_; with_reducible conv => whnf)
  | (rw [pf_hit]; with_reducible conv => whnf)
  | (rw [pf_skip]; rotate_left; (focus (decide +kernel; done)); with_reducible conv => whnf)
  | (rw [lk_hit]; with_reducible conv => whnf)
  | (rw [lk_skip1]; rotate_left; (focus (decide +kernel; done)); with_reducible conv => whnf))))
/-! made or not: any plain values -/
section
variable {μ : Mu} {P : Po} {X : Xo}
theorem sp_ShBad {s : Addr} {a b e : W} (ha : pl a = true) (hb : pl b = true) (he : pl e = true) (h : (rangeW a b && numW e) = false) (hs : μ s = none) (hx : X "BadShard" [] μ) : f_Shard___init__ [.ref s, a, b, e] (mset μ s (.ins "Shard" [])) P X := by
  rw [f_Shard___init___eq]; unfold f_Shard___init___B fDef
  refine ⟨rfl, ?_⟩
  walk_at "q"
  refine sp_is_range ha hb ?_
  cases c : rangeW a b with
  | false =>
    walk_at "q"
    exact ⟨μ, Sub.new hs, hx⟩
  | true =>
    rw [c, Bool.true_and] at h
    walk_at "q"
    refine sp_int he ?_
    rw [show intB e 1 1000000000000 = false from h]
    walk_at "q"
    exact ⟨μ, Sub.new hs, hx⟩
theorem sp_mkBad {a b e : W} (ha : pl a = true) (hb : pl b = true) (he : pl e = true) (p r : W) (h : (rangeW a b && numW e) = false) (hx : X "BadShard" [] μ) : f_made [a, b, e, p, r] μ P X := by
  rw [f_made_eq]; unfold f_made_B fDef
  refine ⟨rfl, ?_⟩
  walk_at "q"
  intro s hs
  exact sp_ShBad ha hb he h hs (q_ex hx)
theorem sp_mkNo {lo : Str} {hi : Option Str} {ep : Int} {p r : W} (hr : rngB lo hi = true) (he : epB ep = true) (dp1 : dp p = true) (dp2 : dp r = true) (h : (inPairs (.str lo) (oS hi) p && rowsW r) = false) (hx : X "BadShard" [] μ) : f_made [.str lo, oS hi, .int ep, p, r] μ P X := by
  rw [f_made_eq]; unfold f_made_B fDef
  refine ⟨rfl, ?_⟩
  walk_at "q"
  intro s hs0
  refine sp_ShInit hr he hs0 fun i e l n1 n2 n3 n4 n5 n6 hi0 he0 hl0 => ?_
  have sub0 : Sub μ (mset (mset (mset (mset μ i (.dk [])) l (.dk [])) e (sesO l)) s (shO lo hi ep i e)) := by
    refine Sub.trans ?_ (Sub.new (by rw [mset_ne (Ne.symm n2), mset_ne (Ne.symm n3), mset_ne (Ne.symm n1), hs0]))
    refine Sub.trans ?_ (Sub.new (by rw [mset_ne (Ne.symm n6), mset_ne n4, he0]))
    exact Sub.trans (Sub.new hi0) (Sub.new (by rw [mset_ne n5, hl0]))
  walk_at "q"
  refine sp_is_pairs hr dp1 ?_
  cases c : inPairs (.str lo) (oS hi) p with
  | false =>
    walk_at "q"
    exact ⟨μ, sub0, hx⟩
  | true =>
    rw [c, Bool.true_and] at h
    walk_at "q"
    refine sp_is_rows dp2 ?_
    rw [h]
    walk_at "q"
    exact ⟨μ, sub0, hx⟩
end
/-! rising rows, by the law -/
def chn {α : Type} (lt : α → α → Bool) : List α → Bool
  | [] => true
  | [_] => true
  | x :: y :: r => lt x y && chn lt (y :: r)
def atL {α : Type} (lt : α → α → Bool) (xs : List α) (i : Nat) : Bool := match xs[i]?, xs[i + 1]? with
  | some a, some b => lt a b
  | _, _ => true
theorem chn_all {α : Type} (lt : α → α → Bool) : ∀ xs : List α, (List.range (xs.length - 1)).all (atL lt xs) = chn lt xs
  | [] => rfl
  | [_] => rfl
  | x :: y :: r => by
    have ih := chn_all lt (y :: r)
    rw [show (x :: y :: r).length - 1 = (y :: r).length - 1 + 1 by simp, List.range_succ_eq_map, List.all_cons, List.all_map]
    unfold chn
    rw [← ih]
    rfl
theorem lift_map {α : Type} {f : α → W} {xs : List α} : ∀ {ws : List W}, (∀ w ∈ ws, w ∈ xs.map f) → ∃ l : List α, ws = l.map f ∧ ∀ x ∈ l, x ∈ xs
  | [], _ => ⟨[], rfl, fun x h => by cases h⟩
  | w :: ws, h => by
    obtain ⟨l, rfl, hl⟩ := lift_map fun w hw => h w (List.mem_cons_of_mem _ hw)
    obtain ⟨x, hx, rfl⟩ := List.mem_map.mp (h w List.mem_cons_self)
    exact ⟨x :: l, rfl, fun y hy => (List.mem_cons.mp hy).elim (fun e => e ▸ hx) (hl y)⟩
section
variable {μ : Mu} {P : Po} {X : Xo}
theorem sp_lrises {α : Type} {f : α → W} (lt : α → α → Bool) {xs : List α} (hl : xs.length ≤ 1000) (h : ∀ x ∈ xs, ∀ y ∈ xs, ∃ a r b s, f x = .tup (a :: r) ∧ f y = .tup (b :: s) ∧ ∀ (μ : Mu) (P : Po), P (.bl (lt x y)) μ → wLt a b μ P) (k : P (.bl (chn lt xs)) μ) : f__law_rises [.tup (xs.map f)] μ P X := by
  rw [f__law_rises_eq]; unfold f__law_rises_B fDef
  refine ⟨rfl, ?_⟩
  have hz : (List.range (xs.length - 1)).length ≤ 16000000 := by rw [List.length_range]; omega
  have en : nums 1 ((((xs.map f).length : Nat) : Int) - 1).toNat = (List.range (xs.length - 1)).map fun i : Nat => W.int (1 + (i : Int)) := by
    unfold nums
    rw [List.length_map]
    congr 1
    congr 1
    omega
  walk_at "q"
  rw [en]
  refine lcV_m (fun i : Nat => W.int (1 + (i : Int))) (fun i => W.bl (atL lt xs i)) (List.range (xs.length - 1)) hz (fun _ _ => trivial) (fun i hi μ' hx Y hy => ?_) ?_
  · have hi := List.mem_range.mp hi
    have h1 : i < xs.length := by omega
    have h2 : i + 1 < xs.length := by omega
    obtain ⟨a, r, b, s, e1, e2, e3⟩ := h xs[i] (List.getElem_mem h1) xs[i + 1] (List.getElem_mem h2)
    have p1 : pick (xs.map f) (1 + (i : Int) - 1) = some (.tup (a :: r)) := by
      rw [← e1]
      exact pick_map (by omega) (by rw [show (1 + (i : Int) - 1).toNat = i by omega]; exact List.getElem?_eq_getElem h1)
    have p2 : pick (xs.map f) (1 + (i : Int)) = some (.tup (b :: s)) := by
      rw [← e2]
      exact pick_map (by omega) (by rw [show (1 + (i : Int)).toNat = i + 1 by omega]; exact List.getElem?_eq_getElem h2)
    have ea : atL lt xs i = lt xs[i] xs[i + 1] := by
      unfold atL
      rw [List.getElem?_eq_getElem h1, List.getElem?_eq_getElem h2]
    rw [ea] at hy
    walk_at "q"
    exact e3 _ _ hy
  · walk_at "q"
    refine ⟨(List.range (xs.length - 1)).map (atL lt xs), by rw [List.map_map]; rfl, ?_⟩
    refine Rt.now ?_
    rw [List.all_map]
    have := chn_all lt xs
    rw [← this] at k
    exact k
end
def ltP (x y : Str × Str) : Bool := sLt x.1 y.1
def ltR (x y : Int × (Int × W)) : Bool := decide (x.1 < y.1)
theorem ris_chn : ∀ {l : List (Str × Str)} {z : Str}, (∀ x ∈ l, isKeyB x.1 = true ∧ valS x.2 = true) → risB z (l.map prW) = ((match l with
    | [] => true
    | x :: _ => sLt z x.1) && chn ltP l)
  | [], z, _ => rfl
  | [x], z, h => by
    obtain ⟨h1, h2⟩ := h x List.mem_cons_self
    show ((isKeyB x.1 && valS x.2) && (sLt z x.1 && true)) = _
    rw [h1, h2]
    rfl
  | x :: y :: r, z, h => by
    obtain ⟨h1, h2⟩ := h x List.mem_cons_self
    have ih := ris_chn (l := y :: r) (z := x.1) fun w hw => h w (List.mem_cons_of_mem _ hw)
    show ((isKeyB x.1 && valS x.2) && (sLt z x.1 && risB x.1 ((y :: r).map prW))) = _
    rw [h1, h2, ih]
    rfl
theorem rows_chn : ∀ {l : List (Int × (Int × W))} {z : Option Int}, (∀ x ∈ l, rowB (rwW x) = true) → rowsL z (l.map rwW) = ((match l with
    | [] => true
    | x :: _ => lastOk z x.1) && chn ltR l)
  | [], z, _ => rfl
  | [x], z, h => by
    have h1 := h x List.mem_cons_self
    show ((intB (.int x.1) (-100) (-1) && (numW (.int x.2.1) && ansW x.2.2)) && (lastOk z x.1 && true)) = _
    rw [show (intB (.int x.1) (-100) (-1) && (numW (.int x.2.1) && ansW x.2.2)) = true from h1]
    rfl
  | x :: y :: r, z, h => by
    have h1 := h x List.mem_cons_self
    have ih := rows_chn (l := y :: r) (z := some x.1) fun w hw => h w (List.mem_cons_of_mem _ hw)
    show ((intB (.int x.1) (-100) (-1) && (numW (.int x.2.1) && ansW x.2.2)) && (lastOk z x.1 && rowsL (some x.1) ((y :: r).map rwW))) = _
    rw [show (intB (.int x.1) (-100) (-1) && (numW (.int x.2.1) && ansW x.2.2)) = true from h1, ih]
    rfl
/-! what is compared -/
theorem eq_prW {x : Str × Str} {w : W} (h : eqW (prW x) w = true) : w = prW x := by
  cases w with
  | tup ws =>
    have h : eqWs [.str x.1, .str x.2] ws = true := h
    match ws, h with
    | [a, b], h =>
      have h : (eqW (.str x.1) a && (eqW (.str x.2) b && true)) = true := h
      obtain ⟨h1, h2⟩ := Bool.and_eq_true_iff.mp h
      obtain ⟨h2, _⟩ := Bool.and_eq_true_iff.mp h2
      cases a with
      | str a =>
        cases b with
        | str b =>
          have e1 : x.1 = a := eq_of_beq (show (x.1 == a) = true from h1)
          have e2 : x.2 = b := eq_of_beq (show (x.2 == b) = true from h2)
          rw [← e1, ← e2]
          rfl
        | _ => cases h2
      | _ => cases h1
    | [], h => cases h
    | [a], h =>
      have h : (eqW (.str x.1) a && false) = true := h
      rw [Bool.and_false] at h
      cases h
    | a :: b :: c :: r, h =>
      have h : (eqW (.str x.1) a && (eqW (.str x.2) b && false)) = true := h
      rw [Bool.and_false, Bool.and_false] at h
      cases h
  | _ => cases h
theorem eq_done {w : W} (h : eqW doneW w = true) : w = doneW := by
  cases w with
  | tup ws =>
    have h : eqWs [.str "done"] ws = true := h
    match ws, h with
    | [a], h =>
      have h : (eqW (.str "done") a && true) = true := h
      rw [Bool.and_true] at h
      cases a with
      | str a =>
        have e1 : ("done" : Str) = a := eq_of_beq (show (("done" : Str) == a) = true from h)
        rw [← e1]
        rfl
      | _ => cases h
    | [], h => cases h
    | a :: b :: r, h =>
      have h : (eqW (.str "done") a && false) = true := h
      rw [Bool.and_false] at h
      cases h
  | _ => cases h
theorem eq_int {i : Int} {w : W} (h0 : i ≠ 0) (h1 : i ≠ 1) (h : eqW (.int i) w = true) : w = .int i := by
  cases w with
  | int j => rw [eq_of_beq (show (i == j) = true from h)]
  | bl b =>
    have e := eq_of_beq (show (i == (if b then 1 else 0)) = true from h)
    cases b with
    | true => exact absurd e h1
    | false => exact absurd e h0
  | _ => cases h
theorem eq_rwW {x : Int × (Int × W)} {w : W} (h1 : x.1 ≤ -1) (h2 : 4 ≤ x.2.1) (h3 : x.2.2 = doneW) (h : eqW (rwW x) w = true) : w = rwW x := by
  obtain ⟨c, n, a⟩ := x
  simp only at h1 h2 h3
  subst h3
  cases w with
  | tup ws =>
    have h : eqWs [.int c, .int n, doneW] ws = true := h
    match ws, h with
    | [a, b, d], h =>
      have h : (eqW (.int c) a && (eqW (.int n) b && (eqW doneW d && true))) = true := h
      obtain ⟨k1, k2⟩ := Bool.and_eq_true_iff.mp h
      obtain ⟨k2, k3⟩ := Bool.and_eq_true_iff.mp k2
      obtain ⟨k3, _⟩ := Bool.and_eq_true_iff.mp k3
      rw [eq_int (by omega) (by omega) k1, eq_int (by omega) (by omega) k2, eq_done k3]
      rfl
    | [], h => cases h
    | [a], h =>
      have h : (eqW (.int c) a && false) = true := h
      rw [Bool.and_false] at h
      cases h
    | [a, b], h =>
      have h : (eqW (.int c) a && (eqW (.int n) b && false)) = true := h
      rw [Bool.and_false, Bool.and_false] at h
      cases h
    | a :: b :: c' :: d :: r, h =>
      have h : (eqW (.int c) a && (eqW (.int n) b && (eqW doneW c' && false))) = true := h
      rw [Bool.and_false, Bool.and_false, Bool.and_false] at h
      cases h
  | _ => cases h
/-- x in ws, where what is equal is the same -/
theorem any_in {ws : List W} {x : W} (hd : ∀ w ∈ ws, eqW w w = true) (he : ∀ w ∈ ws, eqW w x = true → x = w) : (ws.any fun z => eqW z x) = true ↔ x ∈ ws := by
  rw [List.any_eq_true]
  constructor
  · rintro ⟨w, hw, e⟩
    rw [he w hw e]
    exact hw
  · exact fun h => ⟨x, h, hd x h⟩
end Q
namespace Q
open PySem L2
local macro_rules | `(tactic| walk_at "mu") => `(tactic| (repeat (first | exact mset_same | assumption | (rw [mset_ne]; rotate_left; (first | assumption | exact Ne.symm (by assumption))))))
local macro_rules | `(tactic| walk_at "lk") => `(tactic| (repeat (first | exact lk_hit | exact lk_nil | refine lk_skip (by decide +kernel) ?_)))
local macro_rules | `(tactic| walk_at "pf") => `(tactic| (repeat (first | rw [pf_nil] | rw [pf_hit] | (rw [pf_skip]; rotate_left; (focus (decide +kernel; done))))))
local macro_rules | `(tactic| walk_at "q") => `(tactic| ((with_reducible conv => whnf); repeat (first
  | (with_reducible refine q_t (by assumption) ?_; with_reducible conv => whnf)
  | (with_reducible refine q_f (by assumption) ?_; with_reducible conv => whnf)
  | (with_reducible refine q_t (by with_reducible rfl) ?_; with_reducible conv => whnf)
  | (with_reducible refine q_f (by with_reducible rfl) ?_; with_reducible conv => whnf)
  | (with_reducible refine q_t (by decide) ?_; with_reducible conv => whnf)
  | (with_reducible refine q_f (by decide) ?_; with_reducible conv => whnf)
  | (with_reducible refine q_t (decide_eq_true (by omega)) ?_; with_reducible conv => whnf)
  | (with_reducible refine q_f (decide_eq_false (by omega)) ?_; with_reducible conv => whnf)
  | (with_reducible refine q_f (q_nn (by omega)) ?_; with_reducible conv => whnf)
  | (with_reducible refine q_t (q_nt (by omega)) ?_; with_reducible conv => whnf)
  | (with_reducible refine q_len (by with_unfolding_all rfl) ?_; with_reducible conv => whnf)
  | (with_reducible refine q_leq (by with_unfolding_all rfl) ?_; with_reducible conv => whnf)
  | (with_reducible refine q_and (by first | assumption | exact True.intro | omega | (simp only [List.length_map, List.length_append, List.length_cons, List.length_nil]; omega) | decide) ?_; with_reducible conv => whnf)
  | (with_reducible refine q_le (by with_unfolding_all rfl) ?_; with_reducible conv => whnf)
  | (with_reducible refine q_and tyL_lst ?_; with_reducible conv => whnf)
  | (with_reducible refine q_and tyL_rol ?_; with_reducible conv => whnf)
  | (with_reducible refine q_and (tyL_ref (by walk_at "mu")) ?_; with_reducible conv => whnf)
  | (with_reducible refine q_and (tyD_ref (by walk_at "mu")) ?_; with_reducible conv => whnf)
  | (with_reducible refine q_and (rdD_ref (by walk_at "mu")) ?_; with_reducible conv => whnf)
  | (rw [pick_c0]; with_reducible conv => whnf)
  | (rw [pick_c1]; with_reducible conv => whnf)
  | (rw [pick_c2]; with_reducible conv => whnf)
  | (rw [pick_c3]; with_reducible conv => whnf)
  | (rw [pick_c4]; with_reducible conv => whnf)
  | (rw [pick_c5]; with_reducible conv => whnf)
  | (rw [mset_same]; with_reducible conv => whnf)
  | (rw [mset_ne (by assumption)]; with_reducible conv => whnf)
  | (rw [mset_ne]; rotate_left; (first | assumption | exact Ne.symm (by assumption)); with_reducible conv => whnf)
  | (rw [rdL_ref]; rotate_left; (focus (walk_at "mu"; done)); with_reducible conv => whnf)
  | (rw [rdL_refD]; rotate_left; (focus (walk_at "mu"; done)); with_reducible conv => whnf)
  | (rw [rdD_refD]; rotate_left; (focus (walk_at "mu"; done)); with_reducible conv => whnf)
  | (rw [rdM_ref]; rotate_left; (focus (walk_at "mu"; done)); with_reducible conv => whnf)
  | (rw [rdL_refK]; rotate_left; (focus (walk_at "mu"; done)); with_reducible conv => whnf)
  | (rw [rdD_refK]; rotate_left; (focus (walk_at "mu"; done)); with_reducible conv => whnf)
  | (rw [tyW_refL]; rotate_left; (focus (walk_at "mu"; done)); with_reducible conv => whnf)
  | (rw [tyW_refD]; rotate_left; (focus (walk_at "mu"; done)); with_reducible conv => whnf)
  | (rw [drf_ref]; rotate_left; (focus (walk_at "mu"; done)); with_reducible conv => whnf)
  | ((conv => (arg 2; tactic' => (walk_at "mu"; done))); with_reducible conv => whnf)
  | (with_reducible refine q_and (Eq.refl _) ?_; with_reducible conv => whnf)
  | (with_reducible refine q_and (MulO.r (by decide)) ?_; with_reducible conv => whnf)
  | (with_reducible refine q_and (MulO.l (by decide)) ?_; with_reducible conv => whnf)
  | (with_reducible refine q_and (MulO.r (by omega)) ?_; with_reducible conv => whnf)
  | (with_reducible refine q_and (MulO.l (by omega)) ?_; with_reducible conv => whnf)
  | (with_reducible refine q_pow (by decide) ?_; with_reducible conv => whnf)
  | (with_reducible refine q_nisT (by first | assumption | with_reducible rfl) ?_; with_reducible conv => whnf)
  | (with_reducible refine q_nisF (by first | assumption | with_reducible rfl) ?_; with_reducible conv => whnf)
  | (with_reducible refine q_eqI ?_; with_reducible conv => whnf)
  | (with_reducible refine q_eqS ?_; with_reducible conv => whnf)
  | (with_reducible refine q_eqB ?_; with_reducible conv => whnf)
  | (with_reducible refine q_neI ?_; with_reducible conv => whnf)
  | (with_reducible refine q_neS ?_; with_reducible conv => whnf)
  | (with_reducible refine q_neB ?_; with_reducible conv => whnf)
  | (with_reducible refine q_memc ?_; with_reducible conv => whnf)
  | (with_reducible refine q_lkn (by walk_at "lk") ?_; with_reducible conv => whnf)
  | (with_reducible refine q_tix (by walk_at "lk"; done) ?_; with_reducible conv => whnf)
  | (with_reducible refine q_tin ?_; with_reducible conv => whnf)
  | (rw [pf_hit]; with_reducible conv => whnf)
  | (rw [pf_skip]; rotate_left; (focus (decide +kernel; done)); with_reducible conv => whnf)
  | (rw [lk_hit]; with_reducible conv => whnf)
  | (rw [lk_skip1]; rotate_left; (focus (decide +kernel; done)); with_reducible conv => whnf))))
/-! whole or not, as the law tells it -/
theorem q_sq {a b : FS} {ρ : Rho} {μ : Mu} {N : En} (M : Rho → Mu → Prop) (h : ∀ K : Rho → Mu → Prop, (∀ ρ' μ', M ρ' μ' → K ρ' μ') → a ρ μ { N with nx := K }) (k : ∀ ρ' μ', M ρ' μ' → b ρ' μ' N) : sSeq a b ρ μ N := h _ k
structure GoodP (ps0 : List W) (ok : W → Bool) (w : W) : Prop where
  dp : dp w = true
  d : isD 58 w = true
  mem : ∀ ps, w = .tup ps → ∀ x ∈ ps, x ∈ ps0 ∨ ok x = false
  len : ∀ ps, w = .tup ps → ps.length ≤ 1000
theorem isDs_in {n : Nat} : ∀ {ws : List W}, isDs n ws = true → ∀ w ∈ ws, isD n w = true
  | [], _, w, h => by cases h
  | x :: ws, h, w, hw => by
    have h : (isD n x && isDs n ws) = true := by
      cases n <;> exact h
    obtain ⟨h1, h2⟩ := Bool.and_eq_true_iff.mp h
    rcases List.mem_cons.mp hw with rfl | hw
    · exact h1
    · exact isDs_in h2 w hw
theorem tup_in {n : Nat} {ws : List W} (h : isD (n + 1) (.tup ws) = true) {x : W} (hx : x ∈ ws) : isD n x = true := isDs_in (show isDs n ws = true from h) x hx
section
variable {μ : Mu} {P : Po} {X : Xo} {h : Sh} {n : Nat}
theorem sortIt_in {it : It} (hn : Nd it) {x : Str × Str} : x ∈ sortIt it ↔ getT it x.1 = some x.2 := by
  constructor
  · intro hx
    rw [← sortIt_get]
    exact nd_mem (sortIt_nd hn) hx
  · intro hx
    rw [← sortIt_get] at hx
    exact getT_mem hx
theorem sortSs_in {ss : Ss} (hn : Nd ss) {x : Int × (Int × W)} : x ∈ sortSs ss ↔ getT ss x.1 = some x.2 := by
  constructor
  · intro hx
    rw [← sortSs_get]
    exact nd_mem (sortSs_nd hn) hx
  · intro hx
    rw [← sortSs_get] at hx
    exact getT_mem hx
theorem Fil.pOk (F : Fil h n) : ∀ x ∈ sortIt h.it, isKeyB x.1 = true ∧ valS x.2 = true := fun x hx => F.kv x.1 x.2 ((sortIt_in F.nd).mp hx)
theorem ans_done : ansW doneW = true := by decide +kernel
theorem Fil.rOk (F : Fil h n) (hn : n ≤ 1000) : ∀ x ∈ sortSs h.ss, rowB (rwW x) = true := fun x hx => by
  obtain ⟨h1, h2, h3, h4, h5⟩ := F.ses x.1 x.2 ((sortSs_in F.nds).mp hx)
  show ((decide (-100 ≤ x.1) && decide (x.1 ≤ -1)) && ((decide (1 ≤ x.2.1) && decide (x.2.1 ≤ 1000000000000)) && ansW x.2.2)) = true
  rw [h5, ans_done, decide_eq_true (by omega), decide_eq_true (by omega), decide_eq_true (by omega), decide_eq_true (by omega)]
  rfl
theorem anyP (F : Fil h n) (x : W) : ((conI h.it).any fun z => eqW z x) = true ↔ x ∈ conI h.it := by
  rw [con_is]
  refine any_in (fun w hw => ?_) fun w hw e => ?_
  · obtain ⟨y, hy, rfl⟩ := List.mem_map.mp hw
    exact eqW_refl 5 _ rfl
  · obtain ⟨y, hy, rfl⟩ := List.mem_map.mp hw
    exact eq_prW e
theorem anyR (F : Fil h n) (x : W) : ((rowsS h.ss).any fun z => eqW z x) = true ↔ x ∈ rowsS h.ss := by
  rw [rows_is]
  refine any_in (fun w hw => ?_) fun w hw e => ?_
  · obtain ⟨y, hy, rfl⟩ := List.mem_map.mp hw
    obtain ⟨h1, h2, h3, h4, h5⟩ := F.ses y.1 y.2 ((sortSs_in F.nds).mp hy)
    refine eqW_refl 5 _ ?_
    show (true && (true && (isD 4 y.2.2 && true))) = true
    rw [h5]
    rfl
  · obtain ⟨y, hy, rfl⟩ := List.mem_map.mp hw
    obtain ⟨h1, h2, h3, h4, h5⟩ := F.ses y.1 y.2 ((sortSs_in F.nds).mp hy)
    exact eq_rwW (by omega) (by omega) h5 e
theorem Fil.dP (F : Fil h n) : isDs 50 (conI h.it) = true := (con_pairs F.nd F.kv F.inn).2.2
theorem Fil.dR (F : Fil h n) : isDs 52 (rowsS h.ss) = true := by
  rw [rows_is]
  refine isDs_map fun y hy => ?_
  obtain ⟨h1, h2, h3, h4, h5⟩ := F.ses y.1 y.2 ((sortSs_in F.nds).mp hy)
  show (true && (true && (isD 51 y.2.2 && true))) = true
  rw [h5]
  rfl
theorem key_of_bnd {x y : Str} (h : (isKeyB y || decide (y = "")) = true) (l : sLt x y = true) : isKeyB y = true := by
  rcases Bool.or_eq_true_iff.mp h with k | k
  · exact k
  · rw [of_decide_eq_true k, slt_nilS] at l
    cases l
theorem rows_mem : ∀ ws : List W, rowsW (.tup ws) = true → ∀ w ∈ ws, rowB w = true := by
  have key : ∀ {ws : List W} {z : Option Int}, rowsL z ws = true → ∀ w ∈ ws, rowB w = true := by
    intro ws
    induction ws with
    | nil => intro z _ w hw; cases hw
    | cons a r ih =>
      intro z h w hw
      cases c : rowB a with
      | false =>
        rw [rowsL_no c] at h
        cases h
      | true =>
        obtain ⟨k, n, v, rfl, k1⟩ := rowB_some c
        have h : ((intB (.int k) (-100) (-1) && (numW n && ansW v)) && (lastOk z k && rowsL (some k) r)) = true := h
        rcases List.mem_cons.mp hw with rfl | hw
        · exact c
        · exact ih (Bool.and_eq_true_iff.mp (Bool.and_eq_true_iff.mp h).2).2 w hw
  exact fun ws h => key h
theorem sp_lright (F : Fil h n) (hn : n ≤ 100) {p0 p1 p2 p3 p4 : W} (d0 : pl p0 = true) (d1 : pl p1 = true) (d2 : pl p2 = true) (g3 : GoodP (conI h.it) pairB p3) (g4 : GoodP (rowsS h.ss) rowB p4)
    (k1 : (rangeW p0 p1 && numW p2) = false → P (.tup [.bl false, .bl false]) μ)
    (k2 : ∀ lo hi ep, p0 = .str lo → p1 = oS hi → p2 = .int ep → rngB lo hi = true → epB ep = true → (inPairs (.str lo) (oS hi) p3 && rowsW p4) = false → P (.tup [.bl true, .bl false]) μ)
    (k3 : ∀ lo hi ep l m, p0 = .str lo → p1 = oS hi → p2 = .int ep → rngB lo hi = true → epB ep = true → p3 = .tup (l.map prW) → p4 = .tup (m.map rwW) → (∀ x ∈ l, x ∈ sortIt h.it ∧ hasK lo hi x.1 = true) → (∀ x ∈ m, x ∈ sortSs h.ss) → chn ltP l = true → chn ltR m = true → P (.tup [.bl true, .bl true]) μ) :
    f__law_right [.lst [p0, p1, p2, p3, p4], .tup (conI h.it), .tup (rowsS h.ss)] μ P X := by
  rw [f__law_right_eq]; unfold f__law_right_B fDef
  refine ⟨rfl, ?_⟩
  refine q_sq (fun ρ' μ' => μ' = μ ∧ ρ' = [some (.lst [p0, p1, p2, p3, p4]), some (.tup (conI h.it)), some (.tup (rowsS h.ss)), none, none, some p0, some p1, some p2]) (fun K hK => ?_) ?_
  · walk_at "q"
    exact hK _ _ ⟨rfl, rfl⟩
  rintro ρ' μ' ⟨rfl, rfl⟩
  refine q_sq (fun ρ' μ2 => μ2 = μ' ∧ ρ' = [some (.lst [p0, p1, p2, p3, p4]), some (.tup (conI h.it)), some (.tup (rowsS h.ss)), none, none, some p0, some p1, some p2] ∧ ∃ lo hi, p0 = .str lo ∧ p1 = oS hi ∧ rngB lo hi = true) (fun K hK => ?_) ?_
  · walk_at "q"
    refine sp_lbound d0 ?_
    cases c0 : boundW p0 with
    | false =>
      walk_at "q"
      exact Rt.now (k1 (by unfold rangeW; rw [c0]; rfl))
    | true =>
      obtain ⟨lo, rfl⟩ := bound_str c0
      walk_at "q"
      cases p1 with
      | non =>
        walk_at "q"
        exact hK _ _ ⟨rfl, rfl, lo, none, rfl, rfl, rng_mk c0 fun y hy => by cases hy⟩
      | str y =>
        walk_at "q"
        refine sp_lbound d1 ?_
        cases c1 : boundW (.str y) with
        | false =>
          walk_at "q"
          refine Rt.now (k1 ?_)
          have : isKeyB y = false := (Bool.or_eq_false_iff.mp c1).1
          unfold rangeW
          rw [c0, Bool.true_and]
          show ((isKeyB y && _) && _) = false
          rw [this]
          rfl
        | true =>
          walk_at "q"
          cases c2 : sLt lo y with
          | true =>
            walk_at "q"
            refine hK _ _ ⟨rfl, rfl, lo, some y, rfl, rfl, rng_mk c0 fun z hz => ?_⟩
            cases hz
            exact ⟨key_of_bnd c1 c2, c2⟩
          | false =>
            walk_at "q"
            refine Rt.now (k1 ?_)
            unfold rangeW
            rw [c0, Bool.true_and]
            show ((isKeyB y && sLt lo y) && _) = false
            rw [c2, Bool.and_false]
            rfl
      | bl b =>
        walk_at "q"
        refine sp_lbound d1 ?_
        rw [show boundW (W.bl b) = false from rfl]
        walk_at "q"
        exact Rt.now (k1 (by unfold rangeW; rw [Bool.and_false]; rfl))
      | int b =>
        walk_at "q"
        refine sp_lbound d1 ?_
        rw [show boundW (W.int b) = false from rfl]
        walk_at "q"
        exact Rt.now (k1 (by unfold rangeW; rw [Bool.and_false]; rfl))
      | tup b =>
        walk_at "q"
        refine sp_lbound d1 ?_
        rw [show boundW (W.tup b) = false from rfl]
        walk_at "q"
        exact Rt.now (k1 (by unfold rangeW; rw [Bool.and_false]; rfl))
      | lst b =>
        walk_at "q"
        refine sp_lbound d1 ?_
        rw [show boundW (W.lst b) = false from rfl]
        walk_at "q"
        exact Rt.now (k1 (by unfold rangeW; rw [Bool.and_false]; rfl))
      | _ => cases d1
  rintro ρ' μ' ⟨rfl, rfl, lo, hi, rfl, rfl, hr⟩
  have hr' : rangeW (.str lo) (oS hi) = true := hr
  refine q_sq (fun ρ' μ2 => μ2 = μ' ∧ ρ' = [some (.lst [.str lo, oS hi, p2, p3, p4]), some (.tup (conI h.it)), some (.tup (rowsS h.ss)), none, none, some (.str lo), some (oS hi), some p2] ∧ ∃ ep, p2 = .int ep ∧ epB ep = true) (fun K hK => ?_) ?_
  · cases p2 with
    | int ep =>
      walk_at "q"
      refine q_ifP (fun c => ?_) fun c => ?_
      · walk_at "q"
        exact Rt.now (k1 (by rw [hr', Bool.true_and]; show (decide (1 ≤ ep) && _) = false; rw [decide_eq_false (by omega)]; rfl))
      · have e12 : (10 : Int) ^ (Int.toNat 12) = 1000000000000 := by decide +kernel
        walk_at "q"
        refine q_ifP (fun c2 => ?_) fun c2 => ?_
        · walk_at "q"
          exact Rt.now (k1 (by rw [hr', Bool.true_and]; show (_ && decide (ep ≤ 1000000000000)) = false; rw [decide_eq_false (show ¬ ep ≤ 1000000000000 from fun q => by omega), Bool.and_false]))
        · walk_at "q"
          refine hK _ _ ⟨rfl, rfl, ep, rfl, ?_⟩
          unfold epB
          rw [decide_eq_true (by omega), decide_eq_true (show ep ≤ 1000000000000 by omega)]
          rfl
    | non =>
      walk_at "q"
      exact Rt.now (k1 (by rw [hr']; rfl))
    | bl b =>
      walk_at "q"
      exact Rt.now (k1 (by rw [hr']; rfl))
    | str b =>
      walk_at "q"
      exact Rt.now (k1 (by rw [hr']; rfl))
    | tup b =>
      walk_at "q"
      exact Rt.now (k1 (by rw [hr']; rfl))
    | lst b =>
      walk_at "q"
      exact Rt.now (k1 (by rw [hr']; rfl))
    | _ => cases d2
  rintro ρ' μ' ⟨rfl, rfl, ep, rfl, he⟩
  have k2 := k2 lo hi ep rfl rfl rfl hr he
  have k3 := fun l m => k3 lo hi ep l m rfl rfl rfl hr he
  refine q_sq (fun ρ' μ2 => μ2 = μ' ∧ ρ' = [some (.lst [.str lo, oS hi, .int ep, p3, p4]), some (.tup (conI h.it)), some (.tup (rowsS h.ss)), none, none, some (.str lo), some (oS hi), some (.int ep)] ∧ ∃ ps rs, p3 = .tup ps ∧ p4 = .tup rs) (fun K hK => ?_) ?_
  · have main4 : ∀ ps, p3 = .tup ps → ∀ b : Bool, (b = true ↔ ∃ rs, p4 = .tup rs) → True := fun _ _ _ _ => trivial
    have d3 := dp_pl g3.dp
    have d4 := dp_pl g4.dp
    cases p3 with
    | tup ps =>
      cases p4 with
      | tup rs =>
        walk_at "q"
        exact hK _ _ ⟨rfl, rfl, ps, rs, rfl, rfl⟩
      | non =>
        walk_at "q"
        exact Rt.now (k2 (by rw [show rowsW W.non = false from rfl, Bool.and_false]))
      | bl b =>
        walk_at "q"
        exact Rt.now (k2 (by rw [show rowsW (W.bl b) = false from rfl, Bool.and_false]))
      | int b =>
        walk_at "q"
        exact Rt.now (k2 (by rw [show rowsW (W.int b) = false from rfl, Bool.and_false]))
      | str b =>
        walk_at "q"
        exact Rt.now (k2 (by rw [show rowsW (W.str b) = false from rfl, Bool.and_false]))
      | lst b =>
        walk_at "q"
        exact Rt.now (k2 (by rw [show rowsW (W.lst b) = false from rfl, Bool.and_false]))
      | _ => cases d4
    | non =>
      walk_at "q"
      exact Rt.now (k2 rfl)
    | bl b =>
      walk_at "q"
      exact Rt.now (k2 rfl)
    | int b =>
      walk_at "q"
      exact Rt.now (k2 rfl)
    | str b =>
      walk_at "q"
      exact Rt.now (k2 rfl)
    | lst b =>
      walk_at "q"
      exact Rt.now (k2 rfl)
    | _ => cases d3
  rintro ρ' μ' ⟨rfl, rfl, ps, rs, rfl, rfl⟩
  have okP := F.pOk
  have okR := F.rOk (by omega)
  have bad1 : (∃ x ∈ ps, (x ∈ conI h.it ∧ inB (.str lo) (oS hi) x = true) → False) → (inPairs (.str lo) (oS hi) (.tup ps) && rowsW (.tup rs)) = false := by
    rintro ⟨x, hx, no⟩
    cases c : inPairs (.str lo) (oS hi) (.tup ps) with
    | false => rfl
    | true =>
      exfalso
      obtain ⟨c1, c2⟩ := Bool.and_eq_true_iff.mp c
      have c2 : ps.all (inB (.str lo) (oS hi)) = true := c2
      have c1 : risB "" ps = true := c1
      rcases g3.mem ps rfl x hx with k | k
      · exact no ⟨k, List.all_eq_true.mp c2 x hx⟩
      · rw [ris_mem c1 x hx] at k
        cases k
  have bad2 : (∃ x ∈ rs, x ∉ rowsS h.ss) → (inPairs (.str lo) (oS hi) (.tup ps) && rowsW (.tup rs)) = false := by
    rintro ⟨x, hx, no⟩
    rcases g4.mem rs rfl x hx with k | k
    · exact absurd k no
    · cases c : rowsW (.tup rs) with
      | false => rw [Bool.and_false]
      | true =>
        rw [rows_mem rs c x hx] at k
        cases k
  have dP : isDs 58 (conI h.it) = true := isDs_mono (by omega) F.dP
  have dR : isDs 58 (rowsS h.ss) = true := isDs_mono (by omega) F.dR
  refine q_sq (fun ρ' μ2 => μ2 = μ' ∧ (∃ x3 : Option W, ρ' = [some (.lst [.str lo, oS hi, .int ep, .tup ps, .tup rs]), some (.tup (conI h.it)), some (.tup (rowsS h.ss)), x3, none, some (.str lo), some (oS hi), some (.int ep)]) ∧ ∀ x ∈ ps, x ∈ conI h.it ∧ inB (.str lo) (oS hi) x = true) (fun K hK => ?_) ?_
  · walk_at "q"
    refine itS_ret (v := .tup [.bl true, .bl false]) (fun x => ((conI h.it).any fun z => eqW z x) && inB (.str lo) (oS hi) x) (fun ρ => ∃ x3 : Option W, ρ = [some (.lst [.str lo, oS hi, .int ep, .tup ps, .tup rs]), some (.tup (conI h.it)), some (.tup (rowsS h.ss)), x3, none, some (.str lo), some (oS hi), some (.int ep)]) trivial ps ⟨none, rfl⟩ (fun w hw ρ hρ K2 hy hn => ?_) (fun a ρ hρ => ?_) fun a => ?_
    · obtain ⟨x3, rfl⟩ := hρ
      have hold : isD 58 w = true ∧ isDs 58 (conI h.it) = true := ⟨isD_mono (by omega) (tup_in g3.d hw), dP⟩
      clear dP
      cases c : ((conI h.it).any fun z => eqW z w) with
      | false =>
        rw [c] at hn
        walk_at "q"
        refine ⟨hold.1, hold.2, ?_⟩
        rw [c, if_pos rfl]
        walk_at "q"
        exact hn rfl
      | true =>
        rw [c, Bool.true_and] at hy hn
        have hm := (anyP F w).mp c
        rw [con_is] at hm
        obtain ⟨x, hx, rfl⟩ := List.mem_map.mp hm
        have ei : inB (.str lo) (oS hi) (prW x) = (!sLt x.1 lo && belowB x.1 hi) := by
          cases hi with
          | none => rfl
          | some y => rfl
        rw [ei] at hy hn
        walk_at "q"
        refine ⟨hold.2, ?_⟩
        rw [c, if_pos rfl]
        unfold prW
        walk_at "q"
        cases c2 : sLt x.1 lo with
        | true =>
          rw [c2] at hn
          walk_at "q"
          exact hn rfl
        | false =>
          rw [c2] at hn hy
          walk_at "q"
          cases hi with
          | none =>
            walk_at "q"
            exact hy rfl _ ⟨_, rfl⟩
          | some y =>
            have hy : sLt x.1 y = true → _ := hy
            have hn : sLt x.1 y = false → _ := hn
            walk_at "q"
            cases c3 : sLt x.1 y with
            | true =>
              walk_at "q"
              exact hy c3 _ ⟨_, rfl⟩
            | false =>
              walk_at "q"
              exact hn c3
    · obtain ⟨x3, rfl⟩ := hρ
      refine hK _ _ ⟨rfl, ⟨x3, rfl⟩, fun x hx => ?_⟩
      obtain ⟨a1, a2⟩ := Bool.and_eq_true_iff.mp (List.all_eq_true.mp a x hx)
      exact ⟨(anyP F x).mp a1, a2⟩
    · refine Rt.now (k2 (bad1 ?_))
      obtain ⟨x, hx, no⟩ := List.all_eq_false.mp a
      exact ⟨x, hx, fun q => no (by rw [(anyP F x).mpr q.1, q.2]; rfl)⟩
  rintro ρ' μ2 ⟨rfl, ⟨x3, rfl⟩, inP⟩
  refine q_sq (fun ρ' μ3 => μ3 = μ2 ∧ (∃ x4 : Option W, ρ' = [some (.lst [.str lo, oS hi, .int ep, .tup ps, .tup rs]), some (.tup (conI h.it)), some (.tup (rowsS h.ss)), x3, x4, some (.str lo), some (oS hi), some (.int ep)]) ∧ ∀ x ∈ rs, x ∈ rowsS h.ss) (fun K hK => ?_) ?_
  · walk_at "q"
    refine itS_ret (v := .tup [.bl true, .bl false]) (fun x => (rowsS h.ss).any fun z => eqW z x) (fun ρ => ∃ x4 : Option W, ρ = [some (.lst [.str lo, oS hi, .int ep, .tup ps, .tup rs]), some (.tup (conI h.it)), some (.tup (rowsS h.ss)), x3, x4, some (.str lo), some (oS hi), some (.int ep)]) trivial rs ⟨none, rfl⟩ (fun w hw ρ hρ K2 hy hn => ?_) (fun a ρ hρ => ?_) fun a => ?_
    · obtain ⟨x4, rfl⟩ := hρ
      have hold : isD 58 w = true ∧ isDs 58 (rowsS h.ss) = true := ⟨isD_mono (by omega) (tup_in g4.d hw), dR⟩
      clear dR
      cases c : ((rowsS h.ss).any fun z => eqW z w) with
      | false =>
        walk_at "q"
        refine ⟨hold.1, hold.2, ?_⟩
        rw [c, if_pos rfl]
        walk_at "q"
        exact hn c
      | true =>
        walk_at "q"
        refine ⟨hold.1, hold.2, ?_⟩
        rw [c, if_pos rfl]
        walk_at "q"
        exact hy c _ ⟨_, rfl⟩
    · obtain ⟨x4, rfl⟩ := hρ
      refine hK _ _ ⟨rfl, ⟨x4, rfl⟩, fun x hx => ?_⟩
      exact (anyR F x).mp (List.all_eq_true.mp a x hx)
    · refine Rt.now (k2 (bad2 ?_))
      obtain ⟨x, hx, no⟩ := List.all_eq_false.mp a
      exact ⟨x, hx, fun q => no ((anyR F x).mpr q)⟩
  rintro ρ' μ3 ⟨rfl, ⟨x4, rfl⟩, inR⟩
  obtain ⟨l, rfl, hl⟩ := lift_map (f := prW) (xs := sortIt h.it) (ws := ps) fun w hw => by rw [← con_is]; exact (inP w hw).1
  obtain ⟨m, rfl, hm⟩ := lift_map (f := rwW) (xs := sortSs h.ss) (ws := rs) fun w hw => by rw [← rows_is]; exact inR w hw
  have hk : ∀ x ∈ l, hasK lo hi x.1 = true := fun x hx => by
    have := (inP (prW x) (List.mem_map_of_mem hx)).2
    have ei : inB (.str lo) (oS hi) (prW x) = hasK lo hi x.1 := by
      cases hi with
      | none => rfl
      | some y => rfl
    rwa [ei] at this
  have lenl : l.length ≤ 1000 := by
    have := g3.len _ rfl
    rwa [List.length_map] at this
  have lenm : m.length ≤ 1000 := by
    have := g4.len _ rfl
    rwa [List.length_map] at this
  have vl : ∀ x ∈ l, isKeyB x.1 = true ∧ valS x.2 = true := fun x hx => okP x (hl x hx)
  have vm : ∀ x ∈ m, rowB (rwW x) = true := fun x hx => okR x (hm x hx)
  have no1 : chn ltP l = false → (inPairs (.str lo) (oS hi) (.tup (l.map prW)) && rowsW (.tup (m.map rwW))) = false := fun c => by
    have : inPairs (.str lo) (oS hi) (.tup (l.map prW)) = false := by
      show (risB "" (l.map prW) && _) = false
      rw [ris_chn vl, c, Bool.and_false]
      rfl
    rw [this]
    rfl
  have no2 : chn ltR m = false → (inPairs (.str lo) (oS hi) (.tup (l.map prW)) && rowsW (.tup (m.map rwW))) = false := fun c => by
    have : rowsW (.tup (m.map rwW)) = false := by
      show rowsL none (m.map rwW) = false
      rw [rows_chn vm, c, Bool.and_false]
    rw [this, Bool.and_false]
  walk_at "q"
  refine sp_lrises (f := prW) ltP lenl (fun x hx y hy => ⟨.str x.1, [.str x.2], .str y.1, [.str y.2], rfl, rfl, fun μ P k => k⟩) ?_
  cases c1 : chn ltP l with
  | false =>
    walk_at "q"
    exact Rt.now (k2 (no1 c1))
  | true =>
    walk_at "q"
    refine sp_lrises (f := rwW) ltR lenm (fun x hx y hy => ⟨.int x.1, [.int x.2.1, x.2.2], .int y.1, [.int y.2.1, y.2.2], rfl, rfl, fun μ P k => k⟩) ?_
    cases c2 : chn ltR m with
    | false =>
      walk_at "q"
      exact Rt.now (k2 (no2 c2))
    | true =>
      walk_at "q"
      exact Rt.now (k3 l m rfl rfl (fun x hx => ⟨hl x hx, hk x hx⟩) hm c1 c2)
end
end Q
namespace Q
open PySem L2
local macro_rules | `(tactic| walk_at "mu") => `(tactic| (repeat (first | exact mset_same | assumption | (rw [mset_ne]; rotate_left; (first | assumption | exact Ne.symm (by assumption))))))
local macro_rules | `(tactic| walk_at "lk") => `(tactic| (repeat (first | exact lk_hit | exact lk_nil | refine lk_skip (by decide +kernel) ?_)))
local macro_rules | `(tactic| walk_at "pf") => `(tactic| (repeat (first | rw [pf_nil] | rw [pf_hit] | (rw [pf_skip]; rotate_left; (focus (decide +kernel; done))))))
local macro_rules | `(tactic| walk_at "q") => `(tactic| ((with_reducible conv => whnf); repeat (first
  | (with_reducible refine q_t (by assumption) ?_; with_reducible conv => whnf)
  | (with_reducible refine q_f (by assumption) ?_; with_reducible conv => whnf)
  | (with_reducible refine q_t (by with_reducible rfl) ?_; with_reducible conv => whnf)
  | (with_reducible refine q_f (by with_reducible rfl) ?_; with_reducible conv => whnf)
  | (with_reducible refine q_t (by decide) ?_; with_reducible conv => whnf)
  | (with_reducible refine q_f (by decide) ?_; with_reducible conv => whnf)
  | (with_reducible refine q_t (decide_eq_true (by omega)) ?_; with_reducible conv => whnf)
  | (with_reducible refine q_f (decide_eq_false (by omega)) ?_; with_reducible conv => whnf)
  | (with_reducible refine q_f (q_nn (by omega)) ?_; with_reducible conv => whnf)
  | (with_reducible refine q_t (q_nt (by omega)) ?_; with_reducible conv => whnf)
  | (with_reducible refine q_len (by with_unfolding_all rfl) ?_; with_reducible conv => whnf)
  | (with_reducible refine q_leq (by with_unfolding_all rfl) ?_; with_reducible conv => whnf)
  | (with_reducible refine q_and (by first | assumption | exact True.intro | omega | (simp only [List.length_map, List.length_append, List.length_cons, List.length_nil]; omega) | decide) ?_; with_reducible conv => whnf)
  | (with_reducible refine q_le (by with_unfolding_all rfl) ?_; with_reducible conv => whnf)
  | (with_reducible refine q_and tyL_lst ?_; with_reducible conv => whnf)
  | (with_reducible refine q_and tyL_rol ?_; with_reducible conv => whnf)
  | (with_reducible refine q_and (tyL_ref (by walk_at "mu")) ?_; with_reducible conv => whnf)
  | (with_reducible refine q_and (tyD_ref (by walk_at "mu")) ?_; with_reducible conv => whnf)
  | (with_reducible refine q_and (rdD_ref (by walk_at "mu")) ?_; with_reducible conv => whnf)
  | (rw [pick_c0]; with_reducible conv => whnf)
  | (rw [pick_c1]; with_reducible conv => whnf)
  | (rw [pick_c2]; with_reducible conv => whnf)
  | (rw [pick_c3]; with_reducible conv => whnf)
  | (rw [pick_c4]; with_reducible conv => whnf)
  | (rw [pick_c5]; with_reducible conv => whnf)
  | (rw [mset_same]; with_reducible conv => whnf)
  | (rw [mset_ne (by assumption)]; with_reducible conv => whnf)
  | (rw [mset_ne]; rotate_left; (first | assumption | exact Ne.symm (by assumption)); with_reducible conv => whnf)
  | (rw [rdL_ref]; rotate_left; (focus (walk_at "mu"; done)); with_reducible conv => whnf)
  | (rw [rdL_refD]; rotate_left; (focus (walk_at "mu"; done)); with_reducible conv => whnf)
  | (rw [rdD_refD]; rotate_left; (focus (walk_at "mu"; done)); with_reducible conv => whnf)
  | (rw [rdM_ref]; rotate_left; (focus (walk_at "mu"; done)); with_reducible conv => whnf)
  | (rw [rdL_refK]; rotate_left; (focus (walk_at "mu"; done)); with_reducible conv => whnf)
  | (rw [rdD_refK]; rotate_left; (focus (walk_at "mu"; done)); with_reducible conv => whnf)
  | (rw [tyW_refL]; rotate_left; (focus (walk_at "mu"; done)); with_reducible conv => whnf)
  | (rw [tyW_refD]; rotate_left; (focus (walk_at "mu"; done)); with_reducible conv => whnf)
  | (rw [drf_ref]; rotate_left; (focus (walk_at "mu"; done)); with_reducible conv => whnf)
  | ((conv => (arg 2; tactic' => (walk_at "mu"; done))); with_reducible conv => whnf)
  | (with_reducible refine q_and (Eq.refl _) ?_; with_reducible conv => whnf)
  | (with_reducible refine q_and (MulO.r (by decide)) ?_; with_reducible conv => whnf)
  | (with_reducible refine q_and (MulO.l (by decide)) ?_; with_reducible conv => whnf)
  | (with_reducible refine q_and (MulO.r (by omega)) ?_; with_reducible conv => whnf)
  | (with_reducible refine q_and (MulO.l (by omega)) ?_; with_reducible conv => whnf)
  | (with_reducible refine q_pow (by decide) ?_; with_reducible conv => whnf)
  | (with_reducible refine q_nisT (by first | assumption | with_reducible rfl) ?_; with_reducible conv => whnf)
  | (with_reducible refine q_nisF (by first | assumption | with_reducible rfl) ?_; with_reducible conv => whnf)
  | (with_reducible refine q_eqI ?_; with_reducible conv => whnf)
  | (with_reducible refine q_eqS ?_; with_reducible conv => whnf)
  | (with_reducible refine q_eqB ?_; with_reducible conv => whnf)
  | (with_reducible refine q_neI ?_; with_reducible conv => whnf)
  | (with_reducible refine q_neS ?_; with_reducible conv => whnf)
  | (with_reducible refine q_neB ?_; with_reducible conv => whnf)
  | (with_reducible refine q_memc ?_; with_reducible conv => whnf)
  | (with_reducible refine q_lkn (by walk_at "lk") ?_; with_reducible conv => whnf)
  | (with_reducible refine q_tix (by walk_at "lk"; done) ?_; with_reducible conv => whnf)
  | (with_reducible refine q_tin ?_; with_reducible conv => whnf)
  | (rw [pf_hit]; with_reducible conv => whnf)
  | (rw [pf_skip]; rotate_left; (focus (decide +kernel; done)); with_reducible conv => whnf)
  | (rw [lk_hit]; with_reducible conv => whnf)
  | (rw [lk_skip1]; rotate_left; (focus (decide +kernel; done)); with_reducible conv => whnf))))
/-! what stands while the law runs -/
abbrev Lt : Type := Tb Int (Int × (Op × W))
abbrev Dn : Type := Int × (Int × (Op × W))
def clients3 : List Int := [-1, -2, -100]
structure Inv (m : Nat) (it : It) (last : Lt) (done : List Dn) (shs : List Sh) : Prop where
  cov : Cov "" shs
  ndI : Nd it
  len : it.length ≤ m
  key : ∀ k v, getT it k = some v → isKeyB k = true ∧ valS v = true
  its : ∀ s ∈ shs, Nd s.it ∧ ∀ k, getT s.it k = if hasK s.lo s.hi k = true then getT it k else none
  ep : ∀ s ∈ shs, 1 ≤ s.ep ∧ s.ep ≤ 1 + 2 * (m : Int)
  ndS : ∀ s ∈ shs, Nd s.ss
  ses : ∀ s ∈ shs, ∀ c x, getT s.ss c = some x → ∃ op, (c, x.1, op, x.2) ∈ done
  dn : ∀ d ∈ done, d.1 ∈ clients3 ∧ 1 ≤ d.2.1 ∧ d.2.1 ≤ (m : Int) ∧ d.2.2.1.Ok ∧ AnsOk d.2.2.2 ∧ ∃ l, getT last d.1 = some l ∧ d.2.1 ≤ l.1
  uq : ∀ d ∈ done, ∀ d' ∈ done, d.1 = d'.1 → d.2.1 = d'.2.1 → d = d'
  own : ∀ s ∈ shs, ∀ d ∈ done, hasK s.lo s.hi d.2.2.1.place = true → ∃ x, getT s.ss d.1 = some x ∧ d.2.1 ≤ x.1
  lst : ∀ c l, getT last c = some l → (c, l) ∈ done
  ndL : Nd last
theorem Inv.mono {m : Nat} {it : It} {last : Lt} {done : List Dn} {shs : List Sh} (h : Inv m it last done shs) : Inv (m + 1) it last done shs :=
  ⟨h.cov, h.ndI, Nat.le_succ_of_le h.len, h.key, h.its, fun s hs => ⟨(h.ep s hs).1, by have := (h.ep s hs).2; omega⟩, h.ndS, h.ses, fun d hd => by
    obtain ⟨a, b, c, d⟩ := h.dn d hd
    exact ⟨a, b, by omega, d⟩, h.uq, h.own, h.lst, h.ndL⟩
section
variable {m : Nat} {it : It} {last : Lt} {done : List Dn} {shs : List Sh}
theorem Inv.has (h : Inv m it last done shs) {s : Sh} (hs : s ∈ shs) {k : Str} (hk : (getT s.it k).isSome = true) : hasK s.lo s.hi k = true := by
  rw [(h.its s hs).2 k] at hk
  by_cases c : hasK s.lo s.hi k = true
  · exact c
  · rw [if_neg c] at hk
    cases hk
theorem Inv.kv (h : Inv m it last done shs) {s : Sh} (hs : s ∈ shs) (k v : Str) (hk : getT s.it k = some v) : isKeyB k = true ∧ valS v = true := by
  have c := h.has hs (k := k) (by rw [hk]; rfl)
  rw [(h.its s hs).2 k, if_pos c] at hk
  exact h.key k v hk
theorem Inv.il (h : Inv m it last done shs) {s : Sh} (hs : s ∈ shs) : s.it.length ≤ m := by
  have := nodup_le (a := keysT s.it) (b := keysT it) (h.its s hs).1 fun k hk => by
    have h1 := (mem_keysT _ _).mp hk
    have c := h.has hs h1
    rw [(h.its s hs).2 k, if_pos c] at h1
    exact (mem_keysT _ _).mpr h1
  rw [keysT_len, keysT_len] at this
  exact Nat.le_trans this h.len
theorem Inv.rng (h : Inv m it last done shs) {s : Sh} (hs : s ∈ shs) : rngB s.lo s.hi = true := (h.cov.lows s hs).2
def nextN (last : Lt) (c : Int) : Int := match getT last c with
  | some l => l.1 + 1
  | none => 1
theorem Inv.fresh (h : Inv m it last done shs) {c : Int} {d : Dn} (hd : d ∈ done) (hc : d.1 = c) : d.2.1 < nextN last c := by
  obtain ⟨_, _, _, _, _, l, el, le⟩ := h.dn d hd
  unfold nextN
  rw [← hc, el]
  show d.2.1 < l.1 + 1
  omega
theorem hasK_one {A B : List Sh} {s : Sh} (hc : Cov "" (A ++ s :: B)) {z : Str} (hz : hasK s.lo s.hi z = true) : ∀ t, t ∈ A ∨ t ∈ B → hasK t.lo t.hi z = false := fun t ht => by
  obtain ⟨m, c1, c2⟩ := hc.app (b := s :: B) (by simp)
  obtain ⟨z1, z2⟩ := hasK_iff.mp hz
  rcases ht with ht | ht
  · -- A: its ranges end below
    obtain ⟨A1, A2, rfl⟩ := List.append_of_mem ht
    rw [List.append_assoc] at hc
    obtain ⟨m', d1, _⟩ := hc.app (b := (t :: A2) ++ s :: B) (by simp)
    have d1 : Cov m' (t :: (A2 ++ s :: B)) := d1
    have key : ∀ (lo : Str) (q : List Sh), Cov lo q → q = t :: (A2 ++ s :: B) → ∃ y, t.hi = some y ∧ Cov y (A2 ++ s :: B) := fun lo q hq => by
      cases hq with
      | last h1 h2 =>
        intro e
        cases A2 <;> cases e
      | cons h1 h2 h3 =>
        intro e
        cases e
        exact ⟨_, h2, h3⟩
    obtain ⟨y, e1, e2⟩ := key _ _ d1 rfl
    have l1 := (e2.lows s (by simp)).1
    cases c : hasK t.lo t.hi z with
    | false => rfl
    | true =>
      have := (hasK_iff.mp c).2 y e1
      rw [nlt_tr l1 z1] at this
      cases this
  · have key : ∀ (lo : Str) (q : List Sh), Cov lo q → q = s :: B → B = [] ∨ ∃ y, s.hi = some y ∧ Cov y B := fun lo q hq => by
      cases hq with
      | last h1 h2 =>
        intro e
        cases e
        exact .inl rfl
      | cons h1 h2 h3 =>
        intro e
        cases e
        exact .inr ⟨_, h2, h3⟩
    rcases key _ _ c1 rfl with e | ⟨y, e1, e2⟩
    · rw [e] at ht
      cases ht
    · have l1 := (e2.lows t ht).1
      cases c : hasK t.lo t.hi z with
      | false => rfl
      | true =>
        have z3 := (hasK_iff.mp c).1
        rw [lt_of_nlt z3 (z2 y e1)] at l1
        cases l1
theorem Cov.repl {A B : List Sh} {s t : Sh} (hc : Cov "" (A ++ s :: B)) (h1 : t.lo = s.lo) (h2 : t.hi = s.hi) : Cov "" (A ++ t :: B) := by
  obtain ⟨m, c1, c2⟩ := hc.app (b := s :: B) (by simp)
  refine c2 _ ?_
  have key : ∀ (lo : Str) (q : List Sh), Cov lo q → q = s :: B → Cov lo (t :: B) := fun lo q hq => by
    cases hq with
    | last r1 r2 =>
      intro e
      cases e
      rw [← h1]
      rw [← h1, ← h2] at r1
      exact .last r1 (h2.trans r2)
    | cons r1 r2 r3 =>
      intro e
      cases e
      rw [← h1]
      rw [← h1, ← h2] at r1
      exact .cons r1 (h2.trans r2) r3
  exact key _ _ c1 rfl
theorem mem_mid {α : Type} {A B : List α} {s t u : α} (h : u ∈ A ++ t :: B) : u = t ∨ (u ∈ A ++ s :: B ∧ (u ∈ A ∨ u ∈ B)) := by
  rcases List.mem_append.mp h with q | q
  · exact .inr ⟨List.mem_append_left _ q, .inl q⟩
  · rcases List.mem_cons.mp q with q | q
    · exact .inl q
    · exact .inr ⟨List.mem_append_right _ (List.mem_cons_of_mem _ q), .inr q⟩
theorem Inv.new {A B : List Sh} {s : Sh} {c : Int} {op : Op} (h : Inv m it last done (A ++ s :: B)) (hc : c ∈ clients3) (ho : op.Ok) (hk : hasK s.lo s.hi op.place = true) :
    Inv (m + 1) (itOf it op) (putT last c (nextN last c, op, ansIt s.it (oS s.hi) op)) (done ++ [(c, nextN last c, op, ansIt s.it (oS s.hi) op)]) (A ++ { s with it := itOf s.it op, ss := putT s.ss c (nextN last c, ansIt s.it (oS s.hi) op) } :: B) := by
  have hs : s ∈ A ++ s :: B := by simp
  have hone := hasK_one h.cov hk
  have aok : AnsOk (ansIt s.it (oS s.hi) op) := ans_ok (h.its s hs).1 (h.rng hs) (h.kv hs) (fun k q => h.has hs q) ho
  have nlo : 1 ≤ nextN last c ∧ nextN last c ≤ (m : Int) + 1 := by
    unfold nextN
    cases e : getT last c with
    | none => exact ⟨Int.le_refl 1, by show (1 : Int) ≤ _; omega⟩
    | some l =>
      obtain ⟨_, b1, b2, _⟩ := h.dn _ (h.lst c l e)
      have b1 : 1 ≤ l.1 := b1
      have b2 : l.1 ≤ (m : Int) := b2
      exact ⟨by show 1 ≤ l.1 + 1; omega, by show l.1 + 1 ≤ _; omega⟩
  generalize ea : ansIt s.it (oS s.hi) op = a at aok ⊢
  refine ⟨h.cov.repl rfl rfl, nd_itOf h.ndI op, Nat.le_trans (itOf_len it op) (Nat.succ_le_succ h.len), fun k v hkv => ?_, fun t ht => ?_, fun t ht => ?_, fun t ht => ?_, fun t ht i x hx => ?_, fun d hd => ?_, fun d hd d' hd' e1 e2 => ?_, fun t ht d hd hp => ?_, fun i l hl => ?_, nd_put h.ndL _ _⟩
  · rw [getT_itOf] at hkv
    split at hkv
    · rename_i e
      cases op with
      | get x => exact h.key k v hkv
      | put x y =>
        have o : isKeyB x = true ∧ valS y = true := ho
        have e : x = k := e
        have q : y = v := Option.some.inj hkv
        subst q
        exact ⟨by rw [← e]; exact o.1, o.2⟩
      | drop x => cases hkv
      | swap x o n =>
        have hkv : (if getT it k = some o then some n else getT it k) = some v := hkv
        have q : isKeyB x = true ∧ valS o = true ∧ valS n = true := ho
        have e : x = k := e
        split at hkv
        · cases hkv
          exact ⟨by rw [← e]; exact q.1, q.2.2⟩
        · exact h.key k v hkv
      | page b n => exact h.key k v hkv
    · exact h.key k v hkv
  · rcases mem_mid (s := s) ht with rfl | ⟨ht, hab⟩
    · refine ⟨nd_itOf (h.its s hs).1 op, fun k => ?_⟩
      show getT (itOf s.it op) k = if hasK s.lo s.hi k = true then getT (itOf it op) k else none
      rw [getT_itOf, getT_itOf, (h.its s hs).2 k]
      by_cases q : hasK s.lo s.hi k = true
      · rw [if_pos q, if_pos q]
      · rw [if_neg q, if_neg q, if_neg fun z => q (by rw [← z]; exact hk)]
    · refine ⟨(h.its t ht).1, fun k => ?_⟩
      rw [(h.its t ht).2 k]
      by_cases q : hasK t.lo t.hi k = true
      · rw [if_pos q, if_pos q, getT_itOf, if_neg fun z => ?_]
        rw [← z] at q
        rw [hone t hab] at q
        cases q
      · rw [if_neg q, if_neg q]
  · rcases mem_mid (s := s) ht with rfl | ⟨ht, hab⟩
    · have := h.ep s hs
      exact ⟨this.1, by have := this.2; show s.ep ≤ _; omega⟩
    · have := h.ep t ht
      exact ⟨this.1, by have := this.2; omega⟩
  · rcases mem_mid (s := s) ht with rfl | ⟨ht, hab⟩
    · exact nd_put (h.ndS s hs) _ _
    · exact h.ndS t ht
  · rcases mem_mid (s := s) ht with rfl | ⟨ht, hab⟩
    · have hx : getT (putT s.ss c (nextN last c, a)) i = some x := hx
      rw [getT_put] at hx
      split at hx
      · rename_i e
        cases hx
        exact ⟨op, by rw [← e]; simp⟩
      · obtain ⟨o, q⟩ := h.ses s hs i x hx
        exact ⟨o, List.mem_append_left _ q⟩
    · obtain ⟨o, q⟩ := h.ses t ht i x hx
      exact ⟨o, List.mem_append_left _ q⟩
  · rcases List.mem_append.mp hd with hd | hd
    · obtain ⟨b1, b2, b3, b4, b5, l, el, le⟩ := h.dn d hd
      refine ⟨b1, b2, by omega, b4, b5, ?_⟩
      by_cases e : c = d.1
      · exact ⟨_, by rw [getT_put, if_pos e], by have := h.fresh hd e.symm; show d.2.1 ≤ nextN last c; omega⟩
      · exact ⟨l, by rw [getT_put, if_neg e]; exact el, le⟩
    · rw [List.mem_singleton.mp hd]
      exact ⟨hc, nlo.1, by have := nlo.2; show nextN last c ≤ _; omega, ho, aok, _, by rw [getT_put, if_pos rfl], Int.le_refl _⟩
  · rcases List.mem_append.mp hd with hd | hd
    · rcases List.mem_append.mp hd' with hd' | hd'
      · exact h.uq d hd d' hd' e1 e2
      · rw [List.mem_singleton.mp hd'] at e1 e2
        have := h.fresh hd (show d.1 = c from e1)
        have e2 : d.2.1 = nextN last c := e2
        omega
    · rcases List.mem_append.mp hd' with hd' | hd'
      · rw [List.mem_singleton.mp hd] at e1 e2
        have := h.fresh hd' (show d'.1 = c from e1.symm)
        have e2 : nextN last c = d'.2.1 := e2
        omega
      · rw [List.mem_singleton.mp hd, List.mem_singleton.mp hd']
  · rcases mem_mid (s := s) ht with rfl | ⟨ht, hab⟩
    · show ∃ x, getT (putT s.ss c (nextN last c, a)) d.1 = some x ∧ _
      rcases List.mem_append.mp hd with hd | hd
      · by_cases e : c = d.1
        · exact ⟨_, by rw [getT_put, if_pos e], by have := h.fresh hd e.symm; show d.2.1 ≤ nextN last c; omega⟩
        · obtain ⟨x, ex, le⟩ := h.own s hs d hd hp
          exact ⟨x, by rw [getT_put, if_neg e]; exact ex, le⟩
      · rw [List.mem_singleton.mp hd]
        exact ⟨_, by rw [getT_put, if_pos rfl], Int.le_refl _⟩
    · rcases List.mem_append.mp hd with hd | hd
      · exact h.own t ht d hd hp
      · rw [List.mem_singleton.mp hd] at hp
        have hp : hasK t.lo t.hi op.place = true := hp
        rw [hone t hab] at hp
        cases hp
  · rw [getT_put] at hl
    split at hl
    · rename_i e
      cases hl
      rw [← e]
      simp
    · exact List.mem_append_left _ (h.lst i l hl)
end
end Q
namespace Q
open PySem L2
local macro_rules | `(tactic| walk_at "mu") => `(tactic| (repeat (first | exact mset_same | assumption | (rw [mset_ne]; rotate_left; (first | assumption | exact Ne.symm (by assumption))))))
local macro_rules | `(tactic| walk_at "lk") => `(tactic| (repeat (first | exact lk_hit | exact lk_nil | refine lk_skip (by decide +kernel) ?_)))
local macro_rules | `(tactic| walk_at "pf") => `(tactic| (repeat (first | rw [pf_nil] | rw [pf_hit] | (rw [pf_skip]; rotate_left; (focus (decide +kernel; done))))))
local macro_rules | `(tactic| walk_at "q") => `(tactic| ((with_reducible conv => whnf); repeat (first
  | (with_reducible refine q_t (by assumption) ?_; with_reducible conv => whnf)
  | (with_reducible refine q_f (by assumption) ?_; with_reducible conv => whnf)
  | (with_reducible refine q_t (by with_reducible rfl) ?_; with_reducible conv => whnf)
  | (with_reducible refine q_f (by with_reducible rfl) ?_; with_reducible conv => whnf)
  | (with_reducible refine q_t (by decide) ?_; with_reducible conv => whnf)
  | (with_reducible refine q_f (by decide) ?_; with_reducible conv => whnf)
  | (with_reducible refine q_t (decide_eq_true (by omega)) ?_; with_reducible conv => whnf)
  | (with_reducible refine q_f (decide_eq_false (by omega)) ?_; with_reducible conv => whnf)
  | (with_reducible refine q_f (q_nn (by omega)) ?_; with_reducible conv => whnf)
  | (with_reducible refine q_t (q_nt (by omega)) ?_; with_reducible conv => whnf)
  | (with_reducible refine q_len (by with_unfolding_all rfl) ?_; with_reducible conv => whnf)
  | (with_reducible refine q_leq (by with_unfolding_all rfl) ?_; with_reducible conv => whnf)
  | (with_reducible refine q_and (by first | assumption | exact True.intro | omega | (simp only [List.length_map, List.length_append, List.length_cons, List.length_nil]; omega) | decide) ?_; with_reducible conv => whnf)
  | (with_reducible refine q_le (by with_unfolding_all rfl) ?_; with_reducible conv => whnf)
  | (with_reducible refine q_and tyL_lst ?_; with_reducible conv => whnf)
  | (with_reducible refine q_and tyL_rol ?_; with_reducible conv => whnf)
  | (with_reducible refine q_and (tyL_ref (by walk_at "mu")) ?_; with_reducible conv => whnf)
  | (with_reducible refine q_and (tyD_ref (by walk_at "mu")) ?_; with_reducible conv => whnf)
  | (with_reducible refine q_and (rdD_ref (by walk_at "mu")) ?_; with_reducible conv => whnf)
  | (rw [pick_c0]; with_reducible conv => whnf)
  | (rw [pick_c1]; with_reducible conv => whnf)
  | (rw [pick_c2]; with_reducible conv => whnf)
  | (rw [pick_c3]; with_reducible conv => whnf)
  | (rw [pick_c4]; with_reducible conv => whnf)
  | (rw [pick_c5]; with_reducible conv => whnf)
  | (rw [mset_same]; with_reducible conv => whnf)
  | (rw [mset_ne (by assumption)]; with_reducible conv => whnf)
  | (rw [mset_ne]; rotate_left; (first | assumption | exact Ne.symm (by assumption)); with_reducible conv => whnf)
  | (rw [rdL_ref]; rotate_left; (focus (walk_at "mu"; done)); with_reducible conv => whnf)
  | (rw [rdL_refD]; rotate_left; (focus (walk_at "mu"; done)); with_reducible conv => whnf)
  | (rw [rdD_refD]; rotate_left; (focus (walk_at "mu"; done)); with_reducible conv => whnf)
  | (rw [rdM_ref]; rotate_left; (focus (walk_at "mu"; done)); with_reducible conv => whnf)
  | (rw [rdL_refK]; rotate_left; (focus (walk_at "mu"; done)); with_reducible conv => whnf)
  | (rw [rdD_refK]; rotate_left; (focus (walk_at "mu"; done)); with_reducible conv => whnf)
  | (rw [tyW_refL]; rotate_left; (focus (walk_at "mu"; done)); with_reducible conv => whnf)
  | (rw [tyW_refD]; rotate_left; (focus (walk_at "mu"; done)); with_reducible conv => whnf)
  | (rw [drf_ref]; rotate_left; (focus (walk_at "mu"; done)); with_reducible conv => whnf)
  | ((conv => (arg 2; tactic' => (walk_at "mu"; done))); with_reducible conv => whnf)
  | (with_reducible refine q_and (Eq.refl _) ?_; with_reducible conv => whnf)
  | (with_reducible refine q_and (MulO.r (by decide)) ?_; with_reducible conv => whnf)
  | (with_reducible refine q_and (MulO.l (by decide)) ?_; with_reducible conv => whnf)
  | (with_reducible refine q_and (MulO.r (by omega)) ?_; with_reducible conv => whnf)
  | (with_reducible refine q_and (MulO.l (by omega)) ?_; with_reducible conv => whnf)
  | (with_reducible refine q_pow (by decide) ?_; with_reducible conv => whnf)
  | (with_reducible refine q_nisT (by first | assumption | with_reducible rfl) ?_; with_reducible conv => whnf)
  | (with_reducible refine q_nisF (by first | assumption | with_reducible rfl) ?_; with_reducible conv => whnf)
  | (with_reducible refine q_eqI ?_; with_reducible conv => whnf)
  | (with_reducible refine q_eqS ?_; with_reducible conv => whnf)
  | (with_reducible refine q_eqB ?_; with_reducible conv => whnf)
  | (with_reducible refine q_neI ?_; with_reducible conv => whnf)
  | (with_reducible refine q_neS ?_; with_reducible conv => whnf)
  | (with_reducible refine q_neB ?_; with_reducible conv => whnf)
  | (with_reducible refine q_memc ?_; with_reducible conv => whnf)
  | (with_reducible refine q_lkn (by walk_at "lk") ?_; with_reducible conv => whnf)
  | (with_reducible refine q_tix (by walk_at "lk"; done) ?_; with_reducible conv => whnf)
  | (with_reducible refine q_tin ?_; with_reducible conv => whnf)
  | (rw [pf_hit]; with_reducible conv => whnf)
  | (rw [pf_skip]; rotate_left; (focus (decide +kernel; done)); with_reducible conv => whnf)
  | (rw [lk_hit]; with_reducible conv => whnf)
  | (rw [lk_skip1]; rotate_left; (focus (decide +kernel; done)); with_reducible conv => whnf))))
/-! shards that are split -/
section
variable {μ : Mu} {P : Po} {X : Xo} {a : Sa} {h : Sh}
/-- the lower part, the upper part -/
def lowS (h : Sh) (at_ : Str) : Sh := ⟨h.lo, some at_, h.ep + 1, h.it.filter fun x => sLt x.1 at_, h.ss⟩
def upS (h : Sh) (at_ : Str) : Sh := ⟨at_, h.hi, h.ep + 1, h.it.filter fun x => !sLt x.1 at_, h.ss⟩
end
end Q
namespace Q
open PySem L2
local macro_rules | `(tactic| walk_at "mu") => `(tactic| (repeat (first | exact mset_same | assumption | (rw [mset_ne]; rotate_left; (first | assumption | exact Ne.symm (by assumption))))))
local macro_rules | `(tactic| walk_at "lk") => `(tactic| (repeat (first | exact lk_hit | exact lk_nil | refine lk_skip (by decide +kernel) ?_)))
local macro_rules | `(tactic| walk_at "pf") => `(tactic| (repeat (first | rw [pf_nil] | rw [pf_hit] | (rw [pf_skip]; rotate_left; (focus (decide +kernel; done))))))
local macro_rules | `(tactic| walk_at "q") => `(tactic| ((with_reducible conv => whnf); repeat (first
  | (with_reducible refine q_t (by assumption) ?_; with_reducible conv => whnf)
  | (with_reducible refine q_f (by assumption) ?_; with_reducible conv => whnf)
  | (with_reducible refine q_t (by with_reducible rfl) ?_; with_reducible conv => whnf)
  | (with_reducible refine q_f (by with_reducible rfl) ?_; with_reducible conv => whnf)
  | (with_reducible refine q_t (by decide) ?_; with_reducible conv => whnf)
  | (with_reducible refine q_f (by decide) ?_; with_reducible conv => whnf)
  | (with_reducible refine q_t (decide_eq_true (by omega)) ?_; with_reducible conv => whnf)
  | (with_reducible refine q_f (decide_eq_false (by omega)) ?_; with_reducible conv => whnf)
  | (with_reducible refine q_f (q_nn (by omega)) ?_; with_reducible conv => whnf)
  | (with_reducible refine q_t (q_nt (by omega)) ?_; with_reducible conv => whnf)
  | (with_reducible refine q_len (by with_unfolding_all rfl) ?_; with_reducible conv => whnf)
  | (with_reducible refine q_leq (by with_unfolding_all rfl) ?_; with_reducible conv => whnf)
  | (with_reducible refine q_and (by first | assumption | exact True.intro | omega | (simp only [List.length_map, List.length_append, List.length_cons, List.length_nil]; omega) | decide) ?_; with_reducible conv => whnf)
  | (with_reducible refine q_le (by with_unfolding_all rfl) ?_; with_reducible conv => whnf)
  | (with_reducible refine q_and tyL_lst ?_; with_reducible conv => whnf)
  | (with_reducible refine q_and tyL_rol ?_; with_reducible conv => whnf)
  | (with_reducible refine q_and (tyL_ref (by walk_at "mu")) ?_; with_reducible conv => whnf)
  | (with_reducible refine q_and (tyD_ref (by walk_at "mu")) ?_; with_reducible conv => whnf)
  | (with_reducible refine q_and (rdD_ref (by walk_at "mu")) ?_; with_reducible conv => whnf)
  | (rw [pick_c0]; with_reducible conv => whnf)
  | (rw [pick_c1]; with_reducible conv => whnf)
  | (rw [pick_c2]; with_reducible conv => whnf)
  | (rw [pick_c3]; with_reducible conv => whnf)
  | (rw [pick_c4]; with_reducible conv => whnf)
  | (rw [pick_c5]; with_reducible conv => whnf)
  | (rw [mset_same]; with_reducible conv => whnf)
  | (rw [mset_ne (by assumption)]; with_reducible conv => whnf)
  | (rw [mset_ne]; rotate_left; (first | assumption | exact Ne.symm (by assumption)); with_reducible conv => whnf)
  | (rw [rdL_ref]; rotate_left; (focus (walk_at "mu"; done)); with_reducible conv => whnf)
  | (rw [rdL_refD]; rotate_left; (focus (walk_at "mu"; done)); with_reducible conv => whnf)
  | (rw [rdD_refD]; rotate_left; (focus (walk_at "mu"; done)); with_reducible conv => whnf)
  | (rw [rdM_ref]; rotate_left; (focus (walk_at "mu"; done)); with_reducible conv => whnf)
  | (rw [rdL_refK]; rotate_left; (focus (walk_at "mu"; done)); with_reducible conv => whnf)
  | (rw [rdD_refK]; rotate_left; (focus (walk_at "mu"; done)); with_reducible conv => whnf)
  | (rw [tyW_refL]; rotate_left; (focus (walk_at "mu"; done)); with_reducible conv => whnf)
  | (rw [tyW_refD]; rotate_left; (focus (walk_at "mu"; done)); with_reducible conv => whnf)
  | (rw [drf_ref]; rotate_left; (focus (walk_at "mu"; done)); with_reducible conv => whnf)
  | ((conv => (arg 2; tactic' => (walk_at "mu"; done))); with_reducible conv => whnf)
  | (with_reducible refine q_and (Eq.refl _) ?_; with_reducible conv => whnf)
  | (with_reducible refine q_and (MulO.r (by decide)) ?_; with_reducible conv => whnf)
  | (with_reducible refine q_and (MulO.l (by decide)) ?_; with_reducible conv => whnf)
  | (with_reducible refine q_and (MulO.r (by omega)) ?_; with_reducible conv => whnf)
  | (with_reducible refine q_and (MulO.l (by omega)) ?_; with_reducible conv => whnf)
  | (with_reducible refine q_pow (by decide) ?_; with_reducible conv => whnf)
  | (with_reducible refine q_nisT (by first | assumption | with_reducible rfl) ?_; with_reducible conv => whnf)
  | (with_reducible refine q_nisF (by first | assumption | with_reducible rfl) ?_; with_reducible conv => whnf)
  | (with_reducible refine q_eqI ?_; with_reducible conv => whnf)
  | (with_reducible refine q_eqS ?_; with_reducible conv => whnf)
  | (with_reducible refine q_eqB ?_; with_reducible conv => whnf)
  | (with_reducible refine q_neI ?_; with_reducible conv => whnf)
  | (with_reducible refine q_neS ?_; with_reducible conv => whnf)
  | (with_reducible refine q_neB ?_; with_reducible conv => whnf)
  | (with_reducible refine q_memc ?_; with_reducible conv => whnf)
  | (with_reducible refine q_lkn (by walk_at "lk") ?_; with_reducible conv => whnf)
  | (with_reducible refine q_tix (by walk_at "lk"; done) ?_; with_reducible conv => whnf)
  | (with_reducible refine q_tin ?_; with_reducible conv => whnf)
  | (rw [pf_hit]; with_reducible conv => whnf)
  | (rw [pf_skip]; rotate_left; (focus (decide +kernel; done)); with_reducible conv => whnf)
  | (rw [lk_hit]; with_reducible conv => whnf)
  | (rw [lk_skip1]; rotate_left; (focus (decide +kernel; done)); with_reducible conv => whnf))))
/-! shards that are split, joined, made anew -/
section
variable {m : Nat} {it : It} {last : Lt} {done : List Dn}
structure Fit (m : Nat) (it : It) (done : List Dn) (t : Sh) : Prop where
  nd : Nd t.it
  its : ∀ k, getT t.it k = if hasK t.lo t.hi k = true then getT it k else none
  ep : 1 ≤ t.ep ∧ t.ep ≤ 1 + 2 * (m : Int)
  nds : Nd t.ss
  ses : ∀ c x, getT t.ss c = some x → ∃ op, (c, x.1, op, x.2) ∈ done
  own : ∀ d ∈ done, hasK t.lo t.hi d.2.2.1.place = true → ∃ x, getT t.ss d.1 = some x ∧ d.2.1 ≤ x.1
theorem Inv.fit {shs : List Sh} (h : Inv m it last done shs) {t : Sh} (ht : t ∈ shs) : Fit m it done t := ⟨(h.its t ht).1, (h.its t ht).2, h.ep t ht, h.ndS t ht, h.ses t ht, h.own t ht⟩
theorem Inv.chg {shs ns : List Sh} (h : Inv m it last done shs) (hc : Cov "" ns) (hN : ∀ t ∈ ns, t ∈ shs ∨ Fit (m + 1) it done t) : Inv (m + 1) it last done ns := by
  have f : ∀ t ∈ ns, Fit (m + 1) it done t := fun t ht => (hN t ht).elim (fun q => h.mono.fit q) id
  have h' := h.mono
  exact ⟨hc, h'.ndI, h'.len, h'.key, fun t ht => ⟨(f t ht).nd, (f t ht).its⟩, fun t ht => (f t ht).ep, fun t ht => (f t ht).nds, fun t ht => (f t ht).ses, h'.dn, h'.uq, fun t ht => (f t ht).own, h'.lst, h'.ndL⟩
theorem hasK_low {lo z k : Str} {hi : Option Str} (hz : hasK lo hi z = true) : hasK lo (some z) k = (hasK lo hi k && sLt k z) := by
  have z2 := (hasK_iff.mp hz).2
  unfold hasK
  rw [belowB_some]
  cases c : sLt k z with
  | false => rw [Bool.and_false, Bool.and_false]
  | true =>
    cases hi with
    | none =>
      rw [belowB_none]
      cases sLt k lo <;> rfl
    | some y =>
      rw [belowB_some, So.sLt_tr c (z2 y rfl)]
      cases sLt k lo <;> rfl
theorem hasK_up {lo z k : Str} {hi : Option Str} (hz : hasK lo hi z = true) : hasK z hi k = (hasK lo hi k && !sLt k z) := by
  have z1 := (hasK_iff.mp hz).1
  unfold hasK
  cases c : sLt k z with
  | true =>
    cases sLt k lo <;> cases belowB k hi <;> rfl
  | false =>
    rw [nlt_tr z1 c]
    cases belowB k hi <;> rfl
theorem Cov.split {A B : List Sh} {s t u : Sh} {z : Str} (hc : Cov "" (A ++ s :: B)) (hz : hasK s.lo s.hi z = true) (hk : isKeyB z = true) (hl : sLt s.lo z = true) (t1 : t.lo = s.lo) (t2 : t.hi = some z) (u1 : u.lo = z) (u2 : u.hi = s.hi) : Cov "" (A ++ t :: u :: B) := by
  obtain ⟨m, c1, c2⟩ := hc.app (b := s :: B) (by simp)
  refine c2 _ ?_
  have z2 := (hasK_iff.mp hz).2
  have key : ∀ (lo : Str) (q : List Sh), Cov lo q → q = s :: B → Cov lo (t :: u :: B) := fun lo q hq => by
    cases hq with
    | last r1 r2 =>
      intro e
      cases e
      rw [← t1]
      refine .cons (m := z) (rng_mk ?_ fun y hy => ?_) t2 ?_
      · rw [t1]; exact rng_low r1
      · rw [t2] at hy
        cases hy
        rw [t1]
        exact ⟨hk, hl⟩
      · rw [← u1]
        refine .last (rng_mk ?_ fun y hy => ?_) (u2.trans r2)
        · rw [u1, hk]; rfl
        · rw [u2, r2] at hy
          cases hy
    | cons r1 r2 r3 =>
      intro e
      cases e
      rw [← t1]
      refine .cons (m := z) (rng_mk ?_ fun y hy => ?_) t2 ?_
      · rw [t1]; exact rng_low r1
      · rw [t2] at hy
        cases hy
        rw [t1]
        exact ⟨hk, hl⟩
      · rw [← u1]
        refine .cons (rng_mk ?_ fun y hy => ?_) (u2.trans r2) r3
        · rw [u1, hk]; rfl
        · rw [u2] at hy
          rw [u1]
          exact ⟨by rw [hy] at r1; exact (rng_lt r1).2, z2 y hy⟩
  exact key _ _ c1 rfl
theorem fit_low {shs : List Sh} {s : Sh} {z : Str} (h : Inv m it last done shs) (hs : s ∈ shs) (hz : hasK s.lo s.hi z = true) : Fit (m + 1) it done (lowS s z) where
  nd := nd_filter (h.its s hs).1 _
  its k := by
    show getT (s.it.filter fun x => sLt x.1 z) k = if hasK s.lo (some z) k = true then _ else _
    rw [getT_filter s.it (fun k => sLt k z) k, (h.its s hs).2 k, hasK_low hz]
    cases sLt k z <;> cases hasK s.lo s.hi k <;> rfl
  ep := by
    have := h.ep s hs
    exact ⟨by show 1 ≤ s.ep + 1; omega, by show s.ep + 1 ≤ _; omega⟩
  nds := h.ndS s hs
  ses := h.ses s hs
  own d hd hp := by
    have hp : hasK s.lo (some z) d.2.2.1.place = true := hp
    rw [hasK_low hz] at hp
    exact h.own s hs d hd (Bool.and_eq_true_iff.mp hp).1
theorem fit_up {shs : List Sh} {s : Sh} {z : Str} (h : Inv m it last done shs) (hs : s ∈ shs) (hz : hasK s.lo s.hi z = true) : Fit (m + 1) it done (upS s z) where
  nd := nd_filter (h.its s hs).1 _
  its k := by
    show getT (s.it.filter fun x => !sLt x.1 z) k = if hasK z s.hi k = true then _ else _
    rw [getT_filter s.it (fun k => !sLt k z) k, (h.its s hs).2 k, hasK_up hz]
    cases sLt k z <;> cases hasK s.lo s.hi k <;> rfl
  ep := by
    have := h.ep s hs
    exact ⟨by show 1 ≤ s.ep + 1; omega, by show s.ep + 1 ≤ _; omega⟩
  nds := h.ndS s hs
  ses := h.ses s hs
  own d hd hp := by
    have hp : hasK z s.hi d.2.2.1.place = true := hp
    rw [hasK_up hz] at hp
    exact h.own s hs d hd (Bool.and_eq_true_iff.mp hp).1
theorem Inv.split {A B : List Sh} {s : Sh} {z : Str} (h : Inv m it last done (A ++ s :: B)) (hz : hasK s.lo s.hi z = true) (hk : isKeyB z = true) (hl : sLt s.lo z = true) : Inv (m + 1) it last done (A ++ lowS s z :: upS s z :: B) :=
  have hs : s ∈ A ++ s :: B := by simp
  h.chg (h.cov.split hz hk hl rfl rfl rfl rfl) fun t ht => by
    rcases List.mem_append.mp ht with q | q
    · exact .inl (List.mem_append_left _ q)
    · rcases List.mem_cons.mp q with rfl | q
      · exact .inr (fit_low h hs hz)
      · rcases List.mem_cons.mp q with rfl | q
        · exact .inr (fit_up h hs hz)
        · exact .inl (List.mem_append_right _ (List.mem_cons_of_mem _ q))
def anew (s : Sh) : Sh := ⟨s.lo, s.hi, s.ep + 1, sortIt s.it, sortSs s.ss⟩
theorem Inv.made {A B : List Sh} {s : Sh} (h : Inv m it last done (A ++ s :: B)) : Inv (m + 1) it last done (A ++ anew s :: B) := by
  have hs : s ∈ A ++ s :: B := by simp
  refine h.chg (h.cov.repl rfl rfl) fun u hu => ?_
  rcases mem_mid (s := s) hu with rfl | ⟨q, _⟩
  · refine .inr ⟨sortIt_nd (h.its s hs).1, fun k => ?_, ?_, sortSs_nd (h.ndS s hs), fun c x hx => ?_, fun d hd hp => ?_⟩
    · show getT (sortIt s.it) k = _
      rw [sortIt_get]
      exact (h.its s hs).2 k
    · have := h.ep s hs
      exact ⟨by show 1 ≤ s.ep + 1; omega, by show s.ep + 1 ≤ _; omega⟩
    · have hx : getT (sortSs s.ss) c = some x := hx
      rw [sortSs_get] at hx
      exact h.ses s hs c x hx
    · show ∃ x, getT (sortSs s.ss) d.1 = some x ∧ _
      rw [sortSs_get]
      exact h.own s hs d hd hp
  · exact .inl q
end
end Q
namespace Q
open PySem L2
local macro_rules | `(tactic| walk_at "mu") => `(tactic| (repeat (first | exact mset_same | assumption | (rw [mset_ne]; rotate_left; (first | assumption | exact Ne.symm (by assumption))))))
local macro_rules | `(tactic| walk_at "lk") => `(tactic| (repeat (first | exact lk_hit | exact lk_nil | refine lk_skip (by decide +kernel) ?_)))
local macro_rules | `(tactic| walk_at "pf") => `(tactic| (repeat (first | rw [pf_nil] | rw [pf_hit] | (rw [pf_skip]; rotate_left; (focus (decide +kernel; done))))))
local macro_rules | `(tactic| walk_at "q") => `(tactic| ((with_reducible conv => whnf); repeat (first
  | (with_reducible refine q_t (by assumption) ?_; with_reducible conv => whnf)
  | (with_reducible refine q_f (by assumption) ?_; with_reducible conv => whnf)
  | (with_reducible refine q_t (by with_reducible rfl) ?_; with_reducible conv => whnf)
  | (with_reducible refine q_f (by with_reducible rfl) ?_; with_reducible conv => whnf)
  | (with_reducible refine q_t (by decide) ?_; with_reducible conv => whnf)
  | (with_reducible refine q_f (by decide) ?_; with_reducible conv => whnf)
  | (with_reducible refine q_t (decide_eq_true (by omega)) ?_; with_reducible conv => whnf)
  | (with_reducible refine q_f (decide_eq_false (by omega)) ?_; with_reducible conv => whnf)
  | (with_reducible refine q_f (q_nn (by omega)) ?_; with_reducible conv => whnf)
  | (with_reducible refine q_t (q_nt (by omega)) ?_; with_reducible conv => whnf)
  | (with_reducible refine q_len (by with_unfolding_all rfl) ?_; with_reducible conv => whnf)
  | (with_reducible refine q_leq (by with_unfolding_all rfl) ?_; with_reducible conv => whnf)
  | (with_reducible refine q_and (by first | assumption | exact True.intro | omega | (simp only [List.length_map, List.length_append, List.length_cons, List.length_nil]; omega) | decide) ?_; with_reducible conv => whnf)
  | (with_reducible refine q_le (by with_unfolding_all rfl) ?_; with_reducible conv => whnf)
  | (with_reducible refine q_and tyL_lst ?_; with_reducible conv => whnf)
  | (with_reducible refine q_and tyL_rol ?_; with_reducible conv => whnf)
  | (with_reducible refine q_and (tyL_ref (by walk_at "mu")) ?_; with_reducible conv => whnf)
  | (with_reducible refine q_and (tyD_ref (by walk_at "mu")) ?_; with_reducible conv => whnf)
  | (with_reducible refine q_and (rdD_ref (by walk_at "mu")) ?_; with_reducible conv => whnf)
  | (rw [pick_c0]; with_reducible conv => whnf)
  | (rw [pick_c1]; with_reducible conv => whnf)
  | (rw [pick_c2]; with_reducible conv => whnf)
  | (rw [pick_c3]; with_reducible conv => whnf)
  | (rw [pick_c4]; with_reducible conv => whnf)
  | (rw [pick_c5]; with_reducible conv => whnf)
  | (rw [mset_same]; with_reducible conv => whnf)
  | (rw [mset_ne (by assumption)]; with_reducible conv => whnf)
  | (rw [mset_ne]; rotate_left; (first | assumption | exact Ne.symm (by assumption)); with_reducible conv => whnf)
  | (rw [rdL_ref]; rotate_left; (focus (walk_at "mu"; done)); with_reducible conv => whnf)
  | (rw [rdL_refD]; rotate_left; (focus (walk_at "mu"; done)); with_reducible conv => whnf)
  | (rw [rdD_refD]; rotate_left; (focus (walk_at "mu"; done)); with_reducible conv => whnf)
  | (rw [rdM_ref]; rotate_left; (focus (walk_at "mu"; done)); with_reducible conv => whnf)
  | (rw [rdL_refK]; rotate_left; (focus (walk_at "mu"; done)); with_reducible conv => whnf)
  | (rw [rdD_refK]; rotate_left; (focus (walk_at "mu"; done)); with_reducible conv => whnf)
  | (rw [tyW_refL]; rotate_left; (focus (walk_at "mu"; done)); with_reducible conv => whnf)
  | (rw [tyW_refD]; rotate_left; (focus (walk_at "mu"; done)); with_reducible conv => whnf)
  | (rw [drf_ref]; rotate_left; (focus (walk_at "mu"; done)); with_reducible conv => whnf)
  | ((conv => (arg 2; tactic' => (walk_at "mu"; done))); with_reducible conv => whnf)
  | (with_reducible refine q_and (Eq.refl _) ?_; with_reducible conv => whnf)
  | (with_reducible refine q_and (MulO.r (by decide)) ?_; with_reducible conv => whnf)
  | (with_reducible refine q_and (MulO.l (by decide)) ?_; with_reducible conv => whnf)
  | (with_reducible refine q_and (MulO.r (by omega)) ?_; with_reducible conv => whnf)
  | (with_reducible refine q_and (MulO.l (by omega)) ?_; with_reducible conv => whnf)
  | (with_reducible refine q_pow (by decide) ?_; with_reducible conv => whnf)
  | (with_reducible refine q_nisT (by first | assumption | with_reducible rfl) ?_; with_reducible conv => whnf)
  | (with_reducible refine q_nisF (by first | assumption | with_reducible rfl) ?_; with_reducible conv => whnf)
  | (with_reducible refine q_eqI ?_; with_reducible conv => whnf)
  | (with_reducible refine q_eqS ?_; with_reducible conv => whnf)
  | (with_reducible refine q_eqB ?_; with_reducible conv => whnf)
  | (with_reducible refine q_neI ?_; with_reducible conv => whnf)
  | (with_reducible refine q_neS ?_; with_reducible conv => whnf)
  | (with_reducible refine q_neB ?_; with_reducible conv => whnf)
  | (with_reducible refine q_memc ?_; with_reducible conv => whnf)
  | (with_reducible refine q_lkn (by walk_at "lk") ?_; with_reducible conv => whnf)
  | (with_reducible refine q_tix (by walk_at "lk"; done) ?_; with_reducible conv => whnf)
  | (with_reducible refine q_tin ?_; with_reducible conv => whnf)
  | (rw [pf_hit]; with_reducible conv => whnf)
  | (rw [pf_skip]; rotate_left; (focus (decide +kernel; done)); with_reducible conv => whnf)
  | (rw [lk_hit]; with_reducible conv => whnf)
  | (rw [lk_skip1]; rotate_left; (focus (decide +kernel; done)); with_reducible conv => whnf))))
/-! shards that are joined -/
end Q
namespace Q
open PySem L2
local macro_rules | `(tactic| walk_at "mu") => `(tactic| (repeat (first | exact mset_same | assumption | (rw [mset_ne]; rotate_left; (first | assumption | exact Ne.symm (by assumption))))))
local macro_rules | `(tactic| walk_at "lk") => `(tactic| (repeat (first | exact lk_hit | exact lk_nil | refine lk_skip (by decide +kernel) ?_)))
local macro_rules | `(tactic| walk_at "pf") => `(tactic| (repeat (first | rw [pf_nil] | rw [pf_hit] | (rw [pf_skip]; rotate_left; (focus (decide +kernel; done))))))
local macro_rules | `(tactic| walk_at "q") => `(tactic| ((with_reducible conv => whnf); repeat (first
  | (with_reducible refine q_t (by assumption) ?_; with_reducible conv => whnf)
  | (with_reducible refine q_f (by assumption) ?_; with_reducible conv => whnf)
  | (with_reducible refine q_t (by with_reducible rfl) ?_; with_reducible conv => whnf)
  | (with_reducible refine q_f (by with_reducible rfl) ?_; with_reducible conv => whnf)
  | (with_reducible refine q_t (by decide) ?_; with_reducible conv => whnf)
  | (with_reducible refine q_f (by decide) ?_; with_reducible conv => whnf)
  | (with_reducible refine q_t (decide_eq_true (by omega)) ?_; with_reducible conv => whnf)
  | (with_reducible refine q_f (decide_eq_false (by omega)) ?_; with_reducible conv => whnf)
  | (with_reducible refine q_f (q_nn (by omega)) ?_; with_reducible conv => whnf)
  | (with_reducible refine q_t (q_nt (by omega)) ?_; with_reducible conv => whnf)
  | (with_reducible refine q_len (by with_unfolding_all rfl) ?_; with_reducible conv => whnf)
  | (with_reducible refine q_leq (by with_unfolding_all rfl) ?_; with_reducible conv => whnf)
  | (with_reducible refine q_and (by first | assumption | exact True.intro | omega | (simp only [List.length_map, List.length_append, List.length_cons, List.length_nil]; omega) | decide) ?_; with_reducible conv => whnf)
  | (with_reducible refine q_le (by with_unfolding_all rfl) ?_; with_reducible conv => whnf)
  | (with_reducible refine q_and tyL_lst ?_; with_reducible conv => whnf)
  | (with_reducible refine q_and tyL_rol ?_; with_reducible conv => whnf)
  | (with_reducible refine q_and (tyL_ref (by walk_at "mu")) ?_; with_reducible conv => whnf)
  | (with_reducible refine q_and (tyD_ref (by walk_at "mu")) ?_; with_reducible conv => whnf)
  | (with_reducible refine q_and (rdD_ref (by walk_at "mu")) ?_; with_reducible conv => whnf)
  | (rw [pick_c0]; with_reducible conv => whnf)
  | (rw [pick_c1]; with_reducible conv => whnf)
  | (rw [pick_c2]; with_reducible conv => whnf)
  | (rw [pick_c3]; with_reducible conv => whnf)
  | (rw [pick_c4]; with_reducible conv => whnf)
  | (rw [pick_c5]; with_reducible conv => whnf)
  | (rw [mset_same]; with_reducible conv => whnf)
  | (rw [mset_ne (by assumption)]; with_reducible conv => whnf)
  | (rw [mset_ne]; rotate_left; (first | assumption | exact Ne.symm (by assumption)); with_reducible conv => whnf)
  | (rw [rdL_ref]; rotate_left; (focus (walk_at "mu"; done)); with_reducible conv => whnf)
  | (rw [rdL_refD]; rotate_left; (focus (walk_at "mu"; done)); with_reducible conv => whnf)
  | (rw [rdD_refD]; rotate_left; (focus (walk_at "mu"; done)); with_reducible conv => whnf)
  | (rw [rdM_ref]; rotate_left; (focus (walk_at "mu"; done)); with_reducible conv => whnf)
  | (rw [rdL_refK]; rotate_left; (focus (walk_at "mu"; done)); with_reducible conv => whnf)
  | (rw [rdD_refK]; rotate_left; (focus (walk_at "mu"; done)); with_reducible conv => whnf)
  | (rw [tyW_refL]; rotate_left; (focus (walk_at "mu"; done)); with_reducible conv => whnf)
  | (rw [tyW_refD]; rotate_left; (focus (walk_at "mu"; done)); with_reducible conv => whnf)
  | (rw [drf_ref]; rotate_left; (focus (walk_at "mu"; done)); with_reducible conv => whnf)
  | ((conv => (arg 2; tactic' => (walk_at "mu"; done))); with_reducible conv => whnf)
  | (with_reducible refine q_and (Eq.refl _) ?_; with_reducible conv => whnf)
  | (with_reducible refine q_and (MulO.r (by decide)) ?_; with_reducible conv => whnf)
  | (with_reducible refine q_and (MulO.l (by decide)) ?_; with_reducible conv => whnf)
  | (with_reducible refine q_and (MulO.r (by omega)) ?_; with_reducible conv => whnf)
  | (with_reducible refine q_and (MulO.l (by omega)) ?_; with_reducible conv => whnf)
  | (with_reducible refine q_pow (by decide) ?_; with_reducible conv => whnf)
  | (with_reducible refine q_nisT (by first | assumption | with_reducible rfl) ?_; with_reducible conv => whnf)
  | (with_reducible refine q_nisF (by first | assumption | with_reducible rfl) ?_; with_reducible conv => whnf)
  | (with_reducible refine q_eqI ?_; with_reducible conv => whnf)
  | (with_reducible refine q_eqS ?_; with_reducible conv => whnf)
  | (with_reducible refine q_eqB ?_; with_reducible conv => whnf)
  | (with_reducible refine q_neI ?_; with_reducible conv => whnf)
  | (with_reducible refine q_neS ?_; with_reducible conv => whnf)
  | (with_reducible refine q_neB ?_; with_reducible conv => whnf)
  | (with_reducible refine q_memc ?_; with_reducible conv => whnf)
  | (with_reducible refine q_lkn (by walk_at "lk") ?_; with_reducible conv => whnf)
  | (with_reducible refine q_tix (by walk_at "lk"; done) ?_; with_reducible conv => whnf)
  | (with_reducible refine q_tin ?_; with_reducible conv => whnf)
  | (rw [pf_hit]; with_reducible conv => whnf)
  | (rw [pf_skip]; rotate_left; (focus (decide +kernel; done)); with_reducible conv => whnf)
  | (rw [lk_hit]; with_reducible conv => whnf)
  | (rw [lk_skip1]; rotate_left; (focus (decide +kernel; done)); with_reducible conv => whnf))))
/-! the law's own steps: find, apply -/
end Q
namespace Q
open PySem L2
local macro_rules | `(tactic| walk_at "mu") => `(tactic| (repeat (first | exact mset_same | assumption | (rw [mset_ne]; rotate_left; (first | assumption | exact Ne.symm (by assumption))))))
local macro_rules | `(tactic| walk_at "lk") => `(tactic| (repeat (first | exact lk_hit | exact lk_nil | refine lk_skip (by decide +kernel) ?_)))
local macro_rules | `(tactic| walk_at "pf") => `(tactic| (repeat (first | rw [pf_nil] | rw [pf_hit] | (rw [pf_skip]; rotate_left; (focus (decide +kernel; done))))))
local macro_rules | `(tactic| walk_at "q") => `(tactic| ((with_reducible conv => whnf); repeat (first
  | (with_reducible refine q_t (by assumption) ?_; with_reducible conv => whnf)
  | (with_reducible refine q_f (by assumption) ?_; with_reducible conv => whnf)
  | (with_reducible refine q_t (by with_reducible rfl) ?_; with_reducible conv => whnf)
  | (with_reducible refine q_f (by with_reducible rfl) ?_; with_reducible conv => whnf)
  | (with_reducible refine q_t (by decide) ?_; with_reducible conv => whnf)
  | (with_reducible refine q_f (by decide) ?_; with_reducible conv => whnf)
  | (with_reducible refine q_t (decide_eq_true (by omega)) ?_; with_reducible conv => whnf)
  | (with_reducible refine q_f (decide_eq_false (by omega)) ?_; with_reducible conv => whnf)
  | (with_reducible refine q_f (q_nn (by omega)) ?_; with_reducible conv => whnf)
  | (with_reducible refine q_t (q_nt (by omega)) ?_; with_reducible conv => whnf)
  | (with_reducible refine q_len (by with_unfolding_all rfl) ?_; with_reducible conv => whnf)
  | (with_reducible refine q_leq (by with_unfolding_all rfl) ?_; with_reducible conv => whnf)
  | (with_reducible refine q_and (by first | assumption | exact True.intro | omega | (simp only [List.length_map, List.length_append, List.length_cons, List.length_nil]; omega) | decide) ?_; with_reducible conv => whnf)
  | (with_reducible refine q_le (by with_unfolding_all rfl) ?_; with_reducible conv => whnf)
  | (with_reducible refine q_and tyL_lst ?_; with_reducible conv => whnf)
  | (with_reducible refine q_and tyL_rol ?_; with_reducible conv => whnf)
  | (with_reducible refine q_and (tyL_ref (by walk_at "mu")) ?_; with_reducible conv => whnf)
  | (with_reducible refine q_and (tyD_ref (by walk_at "mu")) ?_; with_reducible conv => whnf)
  | (with_reducible refine q_and (rdD_ref (by walk_at "mu")) ?_; with_reducible conv => whnf)
  | (rw [pick_c0]; with_reducible conv => whnf)
  | (rw [pick_c1]; with_reducible conv => whnf)
  | (rw [pick_c2]; with_reducible conv => whnf)
  | (rw [pick_c3]; with_reducible conv => whnf)
  | (rw [pick_c4]; with_reducible conv => whnf)
  | (rw [pick_c5]; with_reducible conv => whnf)
  | (rw [mset_same]; with_reducible conv => whnf)
  | (rw [mset_ne (by assumption)]; with_reducible conv => whnf)
  | (rw [mset_ne]; rotate_left; (first | assumption | exact Ne.symm (by assumption)); with_reducible conv => whnf)
  | (rw [rdL_ref]; rotate_left; (focus (walk_at "mu"; done)); with_reducible conv => whnf)
  | (rw [rdL_refD]; rotate_left; (focus (walk_at "mu"; done)); with_reducible conv => whnf)
  | (rw [rdD_refD]; rotate_left; (focus (walk_at "mu"; done)); with_reducible conv => whnf)
  | (rw [rdM_ref]; rotate_left; (focus (walk_at "mu"; done)); with_reducible conv => whnf)
  | (rw [rdL_refK]; rotate_left; (focus (walk_at "mu"; done)); with_reducible conv => whnf)
  | (rw [rdD_refK]; rotate_left; (focus (walk_at "mu"; done)); with_reducible conv => whnf)
  | (rw [tyW_refL]; rotate_left; (focus (walk_at "mu"; done)); with_reducible conv => whnf)
  | (rw [tyW_refD]; rotate_left; (focus (walk_at "mu"; done)); with_reducible conv => whnf)
  | (rw [drf_ref]; rotate_left; (focus (walk_at "mu"; done)); with_reducible conv => whnf)
  | ((conv => (arg 2; tactic' => (walk_at "mu"; done))); with_reducible conv => whnf)
  | (with_reducible refine q_and (Eq.refl _) ?_; with_reducible conv => whnf)
  | (with_reducible refine q_and (MulO.r (by decide)) ?_; with_reducible conv => whnf)
  | (with_reducible refine q_and (MulO.l (by decide)) ?_; with_reducible conv => whnf)
  | (with_reducible refine q_and (MulO.r (by omega)) ?_; with_reducible conv => whnf)
  | (with_reducible refine q_and (MulO.l (by omega)) ?_; with_reducible conv => whnf)
  | (with_reducible refine q_pow (by decide) ?_; with_reducible conv => whnf)
  | (with_reducible refine q_nisT (by first | assumption | with_reducible rfl) ?_; with_reducible conv => whnf)
  | (with_reducible refine q_nisF (by first | assumption | with_reducible rfl) ?_; with_reducible conv => whnf)
  | (with_reducible refine q_eqI ?_; with_reducible conv => whnf)
  | (with_reducible refine q_eqS ?_; with_reducible conv => whnf)
  | (with_reducible refine q_eqB ?_; with_reducible conv => whnf)
  | (with_reducible refine q_neI ?_; with_reducible conv => whnf)
  | (with_reducible refine q_neS ?_; with_reducible conv => whnf)
  | (with_reducible refine q_neB ?_; with_reducible conv => whnf)
  | (with_reducible refine q_memc ?_; with_reducible conv => whnf)
  | (with_reducible refine q_lkn (by walk_at "lk") ?_; with_reducible conv => whnf)
  | (with_reducible refine q_tix (by walk_at "lk"; done) ?_; with_reducible conv => whnf)
  | (with_reducible refine q_tin ?_; with_reducible conv => whnf)
  | (rw [pf_hit]; with_reducible conv => whnf)
  | (rw [pf_skip]; rotate_left; (focus (decide +kernel; done)); with_reducible conv => whnf)
  | (rw [lk_hit]; with_reducible conv => whnf)
  | (rw [lk_skip1]; rotate_left; (focus (decide +kernel; done)); with_reducible conv => whnf))))
/-! the law's own steps: a new request, the last one again, an elder one -/
section
variable {μ : Mu} {P : Po} {X : Xo}
theorem oS_DD (o : Option Str) (n : Nat) : isD n (oS o) = true := by
  cases o <;> cases n <;> rfl
end
end Q
namespace Q
open PySem L2
local macro_rules | `(tactic| walk_at "mu") => `(tactic| (repeat (first | exact mset_same | assumption | (rw [mset_ne]; rotate_left; (first | assumption | exact Ne.symm (by assumption))))))
local macro_rules | `(tactic| walk_at "lk") => `(tactic| (repeat (first | exact lk_hit | exact lk_nil | refine lk_skip (by decide +kernel) ?_)))
local macro_rules | `(tactic| walk_at "pf") => `(tactic| (repeat (first | rw [pf_nil] | rw [pf_hit] | (rw [pf_skip]; rotate_left; (focus (decide +kernel; done))))))
local macro_rules | `(tactic| walk_at "q") => `(tactic| ((with_reducible conv => whnf); repeat (first
  | (with_reducible refine q_t (by assumption) ?_; with_reducible conv => whnf)
  | (with_reducible refine q_f (by assumption) ?_; with_reducible conv => whnf)
  | (with_reducible refine q_t (by with_reducible rfl) ?_; with_reducible conv => whnf)
  | (with_reducible refine q_f (by with_reducible rfl) ?_; with_reducible conv => whnf)
  | (with_reducible refine q_t (by decide) ?_; with_reducible conv => whnf)
  | (with_reducible refine q_f (by decide) ?_; with_reducible conv => whnf)
  | (with_reducible refine q_t (decide_eq_true (by omega)) ?_; with_reducible conv => whnf)
  | (with_reducible refine q_f (decide_eq_false (by omega)) ?_; with_reducible conv => whnf)
  | (with_reducible refine q_f (q_nn (by omega)) ?_; with_reducible conv => whnf)
  | (with_reducible refine q_t (q_nt (by omega)) ?_; with_reducible conv => whnf)
  | (with_reducible refine q_len (by with_unfolding_all rfl) ?_; with_reducible conv => whnf)
  | (with_reducible refine q_leq (by with_unfolding_all rfl) ?_; with_reducible conv => whnf)
  | (with_reducible refine q_and (by first | assumption | exact True.intro | omega | (simp only [List.length_map, List.length_append, List.length_cons, List.length_nil]; omega) | decide) ?_; with_reducible conv => whnf)
  | (with_reducible refine q_le (by with_unfolding_all rfl) ?_; with_reducible conv => whnf)
  | (with_reducible refine q_and tyL_lst ?_; with_reducible conv => whnf)
  | (with_reducible refine q_and tyL_rol ?_; with_reducible conv => whnf)
  | (with_reducible refine q_and (tyL_ref (by walk_at "mu")) ?_; with_reducible conv => whnf)
  | (with_reducible refine q_and (tyD_ref (by walk_at "mu")) ?_; with_reducible conv => whnf)
  | (with_reducible refine q_and (rdD_ref (by walk_at "mu")) ?_; with_reducible conv => whnf)
  | (rw [pick_c0]; with_reducible conv => whnf)
  | (rw [pick_c1]; with_reducible conv => whnf)
  | (rw [pick_c2]; with_reducible conv => whnf)
  | (rw [pick_c3]; with_reducible conv => whnf)
  | (rw [pick_c4]; with_reducible conv => whnf)
  | (rw [pick_c5]; with_reducible conv => whnf)
  | (rw [mset_same]; with_reducible conv => whnf)
  | (rw [mset_ne (by assumption)]; with_reducible conv => whnf)
  | (rw [mset_ne]; rotate_left; (first | assumption | exact Ne.symm (by assumption)); with_reducible conv => whnf)
  | (rw [rdL_ref]; rotate_left; (focus (walk_at "mu"; done)); with_reducible conv => whnf)
  | (rw [rdL_refD]; rotate_left; (focus (walk_at "mu"; done)); with_reducible conv => whnf)
  | (rw [rdD_refD]; rotate_left; (focus (walk_at "mu"; done)); with_reducible conv => whnf)
  | (rw [rdM_ref]; rotate_left; (focus (walk_at "mu"; done)); with_reducible conv => whnf)
  | (rw [rdL_refK]; rotate_left; (focus (walk_at "mu"; done)); with_reducible conv => whnf)
  | (rw [rdD_refK]; rotate_left; (focus (walk_at "mu"; done)); with_reducible conv => whnf)
  | (rw [tyW_refL]; rotate_left; (focus (walk_at "mu"; done)); with_reducible conv => whnf)
  | (rw [tyW_refD]; rotate_left; (focus (walk_at "mu"; done)); with_reducible conv => whnf)
  | (rw [drf_ref]; rotate_left; (focus (walk_at "mu"; done)); with_reducible conv => whnf)
  | ((conv => (arg 2; tactic' => (walk_at "mu"; done))); with_reducible conv => whnf)
  | (with_reducible refine q_and (Eq.refl _) ?_; with_reducible conv => whnf)
  | (with_reducible refine q_and (MulO.r (by decide)) ?_; with_reducible conv => whnf)
  | (with_reducible refine q_and (MulO.l (by decide)) ?_; with_reducible conv => whnf)
  | (with_reducible refine q_and (MulO.r (by omega)) ?_; with_reducible conv => whnf)
  | (with_reducible refine q_and (MulO.l (by omega)) ?_; with_reducible conv => whnf)
  | (with_reducible refine q_pow (by decide) ?_; with_reducible conv => whnf)
  | (with_reducible refine q_nisT (by first | assumption | with_reducible rfl) ?_; with_reducible conv => whnf)
  | (with_reducible refine q_nisF (by first | assumption | with_reducible rfl) ?_; with_reducible conv => whnf)
  | (with_reducible refine q_eqI ?_; with_reducible conv => whnf)
  | (with_reducible refine q_eqS ?_; with_reducible conv => whnf)
  | (with_reducible refine q_eqB ?_; with_reducible conv => whnf)
  | (with_reducible refine q_neI ?_; with_reducible conv => whnf)
  | (with_reducible refine q_neS ?_; with_reducible conv => whnf)
  | (with_reducible refine q_neB ?_; with_reducible conv => whnf)
  | (with_reducible refine q_memc ?_; with_reducible conv => whnf)
  | (with_reducible refine q_lkn (by walk_at "lk") ?_; with_reducible conv => whnf)
  | (with_reducible refine q_tix (by walk_at "lk"; done) ?_; with_reducible conv => whnf)
  | (with_reducible refine q_tin ?_; with_reducible conv => whnf)
  | (rw [pf_hit]; with_reducible conv => whnf)
  | (rw [pf_skip]; rotate_left; (focus (decide +kernel; done)); with_reducible conv => whnf)
  | (rw [lk_hit]; with_reducible conv => whnf)
  | (rw [lk_skip1]; rotate_left; (focus (decide +kernel; done)); with_reducible conv => whnf))))
/-! a content is spoilt -/
theorem cutL_mem {α : Type} {xs : List α} {lo hi : Option Int} {x : α} (h : x ∈ cutL xs lo hi) : x ∈ xs := List.mem_of_mem_drop (List.mem_of_mem_take h)
theorem dps_sub {xs ys : List W} (hx : dps xs = true) (h : ∀ y ∈ ys, y ∈ xs) : dps ys = true := dps_of fun w hw => dps_mem hx w (h w hw)
theorem isDs_sub {n : Nat} {xs ys : List W} (hx : isDs n xs = true) (h : ∀ y ∈ ys, y ∈ xs) : isDs n ys = true := isDs_all fun w hw => isDs_in hx w (h w hw)
theorem mul41' : MulOk "x" 41 := ⟨by decide, fun _ _ => by decide +kernel, fun _ _ => by decide +kernel⟩
structure Pts (h : Sh) (ws : List W) : Prop where
  ex : ∃ p0 p1 p2 p3 p4, ws = [p0, p1, p2, p3, p4] ∧ dp p0 = true ∧ dp p1 = true ∧ dp p2 = true ∧ isD 58 p0 = true ∧ isD 58 p1 = true ∧ isD 58 p2 = true ∧ GoodP (conI h.it) pairB p3 ∧ GoodP (rowsS h.ss) rowB p4
section
variable {μ : Mu} {P : Po} {X : Xo} {h : Sh} {n : Nat}
theorem Fil.pP (F : Fil h n) : dp (.tup (conI h.it)) = true := (con_pairs F.nd F.kv F.inn).2.1
theorem Fil.pR (F : Fil h n) : dp (.tup (rowsS h.ss)) = true := by
  rw [rows_is]
  refine dp_tupI (dps_map fun y hy => ?_)
  obtain ⟨h1, h2, h3, h4, h5⟩ := F.ses y.1 y.2 ((sortSs_in F.nds).mp hy)
  show dp (.tup [.int y.1, .int y.2.1, y.2.2]) = true
  rw [h5]
  refine dp_tupI (dps_consI (dp_intI _) (dps_consI (dp_intI _) (dps_consI ?_ dps_nilI)))
  decide +kernel
theorem con_len (it : It) : (conI it).length = it.length := by
  unfold conI
  rw [List.length_map, sortS_len, keysT_len]
theorem rows_len (ss : Ss) : (rowsS ss).length = ss.length := by
  unfold rowsS
  rw [List.length_map, sortI_len, keysT_len]
theorem Fil.gP (F : Fil h n) (hn : n ≤ 100) {ps : List W} (hp : ∀ x ∈ ps, x ∈ conI h.it) (hl : ps.length ≤ 1000) : GoodP (conI h.it) pairB (.tup ps) where
  dp := dp_tupI (dps_sub (dp_tup F.pP) hp)
  d := isDs_mono (n := 50) (m := 57) (by omega) (isDs_sub F.dP hp)
  mem := fun qs e x hx => by
    cases e
    exact .inl (hp x hx)
  len := fun qs e => by
    cases e
    exact hl
theorem Fil.gR (F : Fil h n) (hn : n ≤ 100) {ps : List W} (hp : ∀ x ∈ ps, x ∈ rowsS h.ss) (hl : ps.length ≤ 1000) : GoodP (rowsS h.ss) rowB (.tup ps) where
  dp := dp_tupI (dps_sub (dp_tup F.pR) hp)
  d := isDs_mono (n := 52) (m := 57) (by omega) (isDs_sub F.dR hp)
  mem := fun qs e x hx => by
    cases e
    exact .inl (hp x hx)
  len := fun qs e => by
    cases e
    exact hl
theorem Fil.bP (F : Fil h n) (hn : n ≤ 100) {b : W} {ps : List W} (hb : dp b = true ∧ isD 57 b = true ∧ pairB b = false) (hp : ∀ x ∈ ps, x ∈ conI h.it) (hl : ps.length ≤ 999) : GoodP (conI h.it) pairB (.tup ([b] ++ ps)) where
  dp := dp_tupI (dps_consI hb.1 (dps_sub (dp_tup F.pP) hp))
  d := by
    have h2 : isDs 57 ps = true := isDs_mono (n := 50) (m := 57) (by omega) (isDs_sub F.dP hp)
    show (isD 57 b && isDs 57 ps) = true
    rw [hb.2.1, h2]
    rfl
  mem := fun qs e x hx => by
    cases e
    rcases List.mem_cons.mp hx with rfl | hx
    · exact .inr hb.2.2
    · exact .inl (hp x hx)
  len := fun qs e => by
    cases e
    show ps.length + 1 ≤ 1000
    omega
theorem Fil.bR (F : Fil h n) (hn : n ≤ 100) {b : W} {ps : List W} (hb : dp b = true ∧ isD 57 b = true ∧ rowB b = false) (hp : ∀ x ∈ ps, x ∈ rowsS h.ss) (hl : ps.length ≤ 999) : GoodP (rowsS h.ss) rowB (.tup ([b] ++ ps)) where
  dp := dp_tupI (dps_consI hb.1 (dps_sub (dp_tup F.pR) hp))
  d := by
    have h2 : isDs 57 ps = true := isDs_mono (n := 52) (m := 57) (by omega) (isDs_sub F.dR hp)
    show (isD 57 b && isDs 57 ps) = true
    rw [hb.2.1, h2]
    rfl
  mem := fun qs e x hx => by
    cases e
    rcases List.mem_cons.mp hx with rfl | hx
    · exact .inr hb.2.2
    · exact .inl (hp x hx)
  len := fun qs e => by
    cases e
    show ps.length + 1 ≤ 1000
    omega
def oddL : List W := [.non, .int 0, .int (-1), .bl true, .str "A", .tup [], .lst [], .tup [.str "a"], .int 1000000000001, .str "abcdefghi"]
theorem odd_ok {w : W} (hw : w ∈ oddL) : dp w = true ∧ isD 58 w = true ∧ ∀ ps, w = .tup ps → (∀ x ∈ ps, pairB x = false ∧ rowB x = false) ∧ ps.length ≤ 1000 := by
  unfold oddL at hw
  simp only [List.mem_cons, List.not_mem_nil, or_false] at hw
  rcases hw with rfl | rfl | rfl | rfl | rfl | rfl | rfl | rfl | rfl | rfl
  all_goals refine ⟨by decide +kernel, by rfl, fun ps e => ?_⟩
  all_goals try (cases e; done)
  · cases e
    refine ⟨fun x hx => ?_, by decide⟩
    cases hx
  · cases e
    refine ⟨fun x hx => ?_, by decide⟩
    rw [List.mem_singleton.mp hx]
    exact ⟨rfl, rfl⟩
theorem odd_good {w : W} (hw : w ∈ oddL) (ps0 : List W) : GoodP ps0 pairB w ∧ GoodP ps0 rowB w := by
  obtain ⟨h1, h2, h3⟩ := odd_ok hw
  exact ⟨⟨h1, h2, fun ps e x hx => .inr ((h3 ps e).1 x hx).1, fun ps e => (h3 ps e).2⟩, ⟨h1, h2, fun ps e x hx => .inr ((h3 ps e).1 x hx).2, fun ps e => (h3 ps e).2⟩⟩
theorem pts (p0 p1 p2 p3 p4 : W) (h0 : dp p0 = true ∧ isD 58 p0 = true) (h1 : dp p1 = true ∧ isD 58 p1 = true) (h2 : dp p2 = true ∧ isD 58 p2 = true) (h3 : GoodP (conI h.it) pairB p3) (h4 : GoodP (rowsS h.ss) rowB p4) : Pts h [p0, p1, p2, p3, p4] := ⟨p0, p1, p2, p3, p4, rfl, h0.1, h1.1, h2.1, h0.2, h1.2, h2.2, h3, h4⟩
theorem odd_dd {w : W} (hw : w ∈ oddL) : dp w = true ∧ isD 58 w = true := ⟨(odd_ok hw).1, (odd_ok hw).2.1⟩
theorem oS_dp {hi : Option Str} (h : ∀ y, hi = some y → y.length ≤ 8) : dp (oS hi) = true := by
  cases hi with
  | none => rfl
  | some y => exact dp_strL (by have := h y rfl; omega)
theorem sp_lspoilt (F : Fil h n) (hn : n ≤ 100) {i : Int} (k : ∀ ws, Pts h ws → P (.lst ws) μ) : f__law_spoilt [.lst [.str h.lo, oS h.hi, .int h.ep, .tup (conI h.it), .tup (rowsS h.ss)], .int i] μ P X := by
  rw [f__law_spoilt_eq]; unfold f__law_spoilt_B fDef
  refine ⟨rfl, ?_⟩
  have lo8 := bnd_len (rng_low F.r)
  have d0 : dp (.str h.lo) = true ∧ isD 58 (.str h.lo) = true := ⟨dp_strL (by omega), rfl⟩
  have d1 : dp (oS h.hi) = true ∧ isD 58 (oS h.hi) = true := ⟨oS_dp fun y hy => by
    have := F.r
    rw [hy] at this
    have := (rng_lt this).2
    exact bnd_len (by rw [this]; rfl), oS_DD _ _⟩
  have d2 : dp (.int h.ep) = true ∧ isD 58 (.int h.ep) = true := ⟨rfl, rfl⟩
  have cl : (conI h.it).length ≤ 100 := by
    rw [con_len]
    exact Nat.le_trans F.len hn
  have rl : (rowsS h.ss).length ≤ 100 := by
    rw [rows_len]
    exact Nat.le_trans F.slen hn
  have g3 : GoodP (conI h.it) pairB (.tup (conI h.it)) := F.gP hn (fun x hx => hx) (by omega)
  have g4 : GoodP (rowsS h.ss) rowB (.tup (rowsS h.ss)) := F.gR hn (fun x hx => hx) (by omega)
  obtain ⟨od, eo, ho⟩ := pick_in (l := oddL) (i := i / 14 % 10) (by omega) (by show i / 14 % 10 < 10; omega)
  obtain ⟨o3, o4⟩ := odd_good ho (conI h.it)
  obtain ⟨_, o4⟩ := odd_good ho (rowsS h.ss)
  have hod := odd_dd ho
  have hold := And.intro d0 (And.intro d1 (And.intro d2 (And.intro g3 (And.intro g4 (And.intro o3 (And.intro o4 hod))))))
  clear d0 d1 d2 g3 g4 o3 o4 hod ho
  unfold oddL at eo
  have c0 : 0 ≤ i % 14 := by omega
  have c1 : i % 14 < 14 := by omega
  have nz : ∀ {α : Type} (xs : List α), xs = [] ∨ ∃ x r, xs = x :: r := fun xs => by
    cases xs with
    | nil => exact .inl rfl
    | cons x r => exact .inr ⟨x, r, rfl⟩
  walk_at "q"
  revert c0 c1
  generalize i % 14 = c
  intro c0 c1
  refine q_ifP (fun c5 => ?_) fun c5 => ?_
  · have : c = 0 ∨ c = 1 ∨ c = 2 ∨ c = 3 ∨ c = 4 := by omega
    obtain ⟨d0, d1, d2, g3, g4, o3, o4, hod⟩ := hold
    rcases this with rfl | rfl | rfl | rfl | rfl
    · walk_at "q"
      exact Rt.now (k _ (pts od (oS h.hi) (.int h.ep) _ _ hod d1 d2 g3 g4))
    · walk_at "q"
      exact Rt.now (k _ (pts (.str h.lo) od (.int h.ep) _ _ d0 hod d2 g3 g4))
    · walk_at "q"
      exact Rt.now (k _ (pts (.str h.lo) (oS h.hi) od _ _ d0 d1 hod g3 g4))
    · walk_at "q"
      exact Rt.now (k _ (pts (.str h.lo) (oS h.hi) (.int h.ep) _ _ d0 d1 d2 o3 g4))
    · walk_at "q"
      exact Rt.now (k _ (pts (.str h.lo) (oS h.hi) (.int h.ep) _ _ d0 d1 d2 g3 o4))
  walk_at "q"
  have l1 := cutL_len (conI h.it) (some (-1)) none
  have l2 := cutL_len (rowsS h.ss) none (some 1)
  have l3 := cutL_len (conI h.it) (some 1) none
  refine q_ifP (fun c6 => ?_) fun c6 => ?_
  · walk_at "q"
    obtain ⟨d0, d1, d2, g3, g4, o3, o4, hod⟩ := hold
    exact Rt.now (k _ (pts (.str h.lo) (oS h.hi) (.int h.ep) (.tup (conI h.it ++ cutL (conI h.it) (some (-1)) none)) _ d0 d1 d2 (F.gP hn (fun x hx => (List.mem_append.mp hx).elim id cutL_mem) (by rw [List.length_append]; omega)) g4))
  walk_at "q"
  refine q_ifP (fun c7 => ?_) fun c7 => ?_
  · walk_at "q"
    obtain ⟨d0, d1, d2, g3, g4, o3, o4, hod⟩ := hold
    exact Rt.now (k _ (pts (.str h.lo) (oS h.hi) (.int h.ep) (.tup (conI h.it).reverse) _ d0 d1 d2 (F.gP hn (fun x hx => List.mem_reverse.mp hx) (by rw [List.length_reverse]; omega)) g4))
  walk_at "q"
  refine q_ifP (fun c8 => ?_) fun c8 => ?_
  · walk_at "q"
    obtain ⟨d0, d1, d2, g3, g4, o3, o4, hod⟩ := hold
    exact Rt.now (k _ (pts (.str h.lo) (oS h.hi) (.int h.ep) _ (.tup (rowsS h.ss ++ cutL (rowsS h.ss) none (some 1))) d0 d1 d2 g3 (F.gR hn (fun x hx => (List.mem_append.mp hx).elim id cutL_mem) (by rw [List.length_append]; omega))))
  walk_at "q"
  refine q_ifP (fun c9 => ?_) fun c9 => ?_
  · walk_at "q"
    obtain ⟨d0, d1, d2, g3, g4, o3, o4, hod⟩ := hold
    exact Rt.now (k _ (pts (.str h.lo) (oS h.hi) (.int h.ep) _ (.tup (rowsS h.ss).reverse) d0 d1 d2 g3 (F.gR hn (fun x hx => List.mem_reverse.mp hx) (by rw [List.length_reverse]; omega))))
  walk_at "q"
  refine q_ifP (fun c10 => ?_) fun c10 => ?_
  · walk_at "q"
    obtain ⟨d0, d1, d2, g3, g4, o3, o4, hod⟩ := hold
    exact Rt.now (k _ (pts (.str h.lo) (oS h.hi) (.int h.ep) (.lst (conI h.it)) _ d0 d1 d2 ⟨g3.dp, g3.d, (fun ps e => nomatch e), (fun ps e => nomatch e)⟩ g4))
  walk_at "q"
  refine q_ifP (fun c12 => ?_) fun c12 => ?_
  · subst c12
    walk_at "q"
    refine q_ifP (fun z => ?_) fun z => ?_
    · obtain ⟨x, r, e⟩ : ∃ x r, sortIt h.it = x :: r := by
        cases e : sortIt h.it with
        | nil =>
          rw [con_is, e] at z
          exact absurd z (by decide)
        | cons x r => exact ⟨x, r, rfl⟩
      have kx := (F.pOk x (by rw [e]; exact List.mem_cons_self)).1
      have x8 : x.1.length ≤ 8 := bnd_len (by rw [kx]; rfl)
      have p0 : pick (conI h.it) 0 = some (.tup [.str x.1, .str x.2]) := by
        rw [con_is, e]
        exact pick_c0 _ _
      have m41 := mul41'
      obtain ⟨bd, eb, hb⟩ := pick_in (l := [.tup [.str "A", .str "x"], .tup [.str x.1, .str (Txt.mul "x" 41)], .tup [.str x.1, .int 7], .tup [.str x.1], .lst [.str x.1, .str "x"]]) (i := i / 14 % 5) (by omega) (by show i / 14 % 5 < 5; omega)
      have bok : dp bd = true ∧ isD 57 bd = true ∧ pairB bd = false := by
        have dx : dp (.str x.1) = true := dp_strL (by omega)
        simp only [List.mem_cons, List.not_mem_nil, or_false] at hb
        rcases hb with rfl | rfl | rfl | rfl | rfl
        · exact ⟨by decide +kernel, rfl, by decide +kernel⟩
        · refine ⟨dp_tupI (dps_consI dx (dps_consI (by decide +kernel) dps_nilI)), rfl, ?_⟩
          show (isKeyB x.1 && valB (.str (Txt.mul "x" 41))) = false
          rw [show valB (.str (Txt.mul "x" 41)) = false by decide +kernel, Bool.and_false]
        · refine ⟨dp_tupI (dps_consI dx (dps_consI rfl dps_nilI)), rfl, ?_⟩
          show (isKeyB x.1 && false) = false
          rw [Bool.and_false]
        · exact ⟨dp_tupI (dps_consI dx dps_nilI), rfl, rfl⟩
        · exact ⟨by
            show dps [.str x.1, .str "x"] = true
            exact dps_consI dx (dps_consI (by decide +kernel) dps_nilI), rfl, rfl⟩
      have g3' := F.bP hn bok (ps := cutL (conI h.it) (some 1) none) (fun x hx => cutL_mem hx) (by omega)
      clear bok hb
      walk_at "q"
      exact Rt.now (k _ (pts (.str h.lo) (oS h.hi) (.int h.ep) _ _ hold.1 hold.2.1 hold.2.2.1 g3' hold.2.2.2.2.1))
    · walk_at "q"
      exact Rt.now (k _ (pts (.str h.lo) (oS h.hi) (.int h.ep) _ _ hold.1 hold.2.1 hold.2.2.1 hold.2.2.2.1 hold.2.2.2.2.1))
  walk_at "q"
  refine q_ifP (fun c13 => ?_) fun c13 => ?_
  · subst c13
    walk_at "q"
    refine q_ifP (fun z => ?_) fun z => ?_
    · obtain ⟨bd, eb, hb⟩ := pick_in (l := [.tup [.int 5, .int 1, .tup [.str "done"]], .tup [.int (-101), .int 1, .tup [.str "done"]], .tup [.int (-100), .int 0, .tup [.str "done"]], .tup [.int (-100), .int 1000000000001, .tup [.str "done"]], .tup [.int (-100), .int 1, .str "done"]] ++ [.tup [.int (-100), .int 1, .tup [.str "done", .int 1]], .tup [.int (-100), .bl true, .tup [.str "done"]], .tup [.int (-100), .int 1]]) (i := i / 14 % 8) (by omega) (by show i / 14 % 8 < 8; omega)
      have bok : dp bd = true ∧ isD 57 bd = true ∧ rowB bd = false := by
        simp only [List.mem_cons, List.mem_append, List.not_mem_nil, or_false] at hb
        rcases hb with (rfl | rfl | rfl | rfl | rfl) | (rfl | rfl | rfl) <;> exact ⟨by decide +kernel, rfl, by decide +kernel⟩
      have g4' := F.bR hn bok (ps := rowsS h.ss) (fun x hx => hx) (by omega)
      clear bok hb
      walk_at "q"
      exact Rt.now (k _ (pts (.str h.lo) (oS h.hi) (.int h.ep) _ _ hold.1 hold.2.1 hold.2.2.1 hold.2.2.2.1 g4'))
    · walk_at "q"
      exact Rt.now (k _ (pts (.str h.lo) (oS h.hi) (.int h.ep) _ _ hold.1 hold.2.1 hold.2.2.1 hold.2.2.2.1 hold.2.2.2.2.1))
  walk_at "q"
  refine q_ifP (fun c11 => ?_) fun c11 => ?_
  · subst c11
    walk_at "q"
    refine q_ifP (fun z => ?_) fun z => ?_
    · obtain ⟨x, r, e⟩ : ∃ x r, sortIt h.it = x :: r := by
        cases e : sortIt h.it with
        | nil =>
          rw [con_is, e] at z
          exact absurd z (by decide)
        | cons x r => exact ⟨x, r, rfl⟩
      have kx := (F.pOk x (by rw [e]; exact List.mem_cons_self)).1
      have x8 : x.1.length ≤ 8 := bnd_len (by rw [kx]; rfl)
      have p0 : pick (conI h.it) 0 = some (.tup [.str x.1, .str x.2]) := by
        rw [con_is, e]
        exact pick_c0 _ _
      have a1 : ("a" : Str).length ≤ 16000000 := by decide +kernel
      have a2 : (cutS "a" none (some (8 - (x.1.length : Int)))).length ≤ 1 := cutS_length "a" _ _
      have dn : dp (.str (x.1 ++ cutS "a" none (some (8 - (x.1.length : Int))))) = true := dp_strL (by
        show (x.1.cps ++ _).size ≤ 1000
        rw [Array.size_append]
        have : x.1.cps.size ≤ 8 := x8
        have : (cutS "a" none (some (8 - (x.1.length : Int)))).cps.size ≤ 1 := a2
        omega)
      walk_at "q"
      exact Rt.now (k _ (pts _ (oS h.hi) (.int h.ep) _ _ ⟨dn, rfl⟩ hold.2.1 hold.2.2.1 hold.2.2.2.1 hold.2.2.2.2.1))
    · walk_at "q"
      exact Rt.now (k _ (pts (.str h.lo) (oS h.hi) (.int h.ep) _ _ hold.1 hold.2.1 hold.2.2.1 hold.2.2.2.1 hold.2.2.2.2.1))
  walk_at "q"
  exact Rt.now (k _ (pts (.str h.lo) (oS h.hi) (.int h.ep) _ _ hold.1 hold.2.1 hold.2.2.1 hold.2.2.2.1 hold.2.2.2.2.1))
end
end Q
namespace Q
open PySem L2
local macro_rules | `(tactic| walk_at "mu") => `(tactic| (repeat (first | exact mset_same | assumption | (rw [mset_ne]; rotate_left; (first | assumption | exact Ne.symm (by assumption))))))
local macro_rules | `(tactic| walk_at "lk") => `(tactic| (repeat (first | exact lk_hit | exact lk_nil | refine lk_skip (by decide +kernel) ?_)))
local macro_rules | `(tactic| walk_at "pf") => `(tactic| (repeat (first | rw [pf_nil] | rw [pf_hit] | (rw [pf_skip]; rotate_left; (focus (decide +kernel; done))))))
local macro_rules | `(tactic| walk_at "q") => `(tactic| ((with_reducible conv => whnf); repeat (first
  | (with_reducible refine q_t (by assumption) ?_; with_reducible conv => whnf)
  | (with_reducible refine q_f (by assumption) ?_; with_reducible conv => whnf)
  | (with_reducible refine q_t (by with_reducible rfl) ?_; with_reducible conv => whnf)
  | (with_reducible refine q_f (by with_reducible rfl) ?_; with_reducible conv => whnf)
  | (with_reducible refine q_t (by decide) ?_; with_reducible conv => whnf)
  | (with_reducible refine q_f (by decide) ?_; with_reducible conv => whnf)
  | (with_reducible refine q_t (decide_eq_true (by omega)) ?_; with_reducible conv => whnf)
  | (with_reducible refine q_f (decide_eq_false (by omega)) ?_; with_reducible conv => whnf)
  | (with_reducible refine q_f (q_nn (by omega)) ?_; with_reducible conv => whnf)
  | (with_reducible refine q_t (q_nt (by omega)) ?_; with_reducible conv => whnf)
  | (with_reducible refine q_len (by with_unfolding_all rfl) ?_; with_reducible conv => whnf)
  | (with_reducible refine q_leq (by with_unfolding_all rfl) ?_; with_reducible conv => whnf)
  | (with_reducible refine q_and (by first | assumption | exact True.intro | omega | (simp only [List.length_map, List.length_append, List.length_cons, List.length_nil]; omega) | decide) ?_; with_reducible conv => whnf)
  | (with_reducible refine q_le (by with_unfolding_all rfl) ?_; with_reducible conv => whnf)
  | (with_reducible refine q_and tyL_lst ?_; with_reducible conv => whnf)
  | (with_reducible refine q_and tyL_rol ?_; with_reducible conv => whnf)
  | (with_reducible refine q_and (tyL_ref (by walk_at "mu")) ?_; with_reducible conv => whnf)
  | (with_reducible refine q_and (tyD_ref (by walk_at "mu")) ?_; with_reducible conv => whnf)
  | (with_reducible refine q_and (rdD_ref (by walk_at "mu")) ?_; with_reducible conv => whnf)
  | (rw [pick_c0]; with_reducible conv => whnf)
  | (rw [pick_c1]; with_reducible conv => whnf)
  | (rw [pick_c2]; with_reducible conv => whnf)
  | (rw [pick_c3]; with_reducible conv => whnf)
  | (rw [pick_c4]; with_reducible conv => whnf)
  | (rw [pick_c5]; with_reducible conv => whnf)
  | (rw [mset_same]; with_reducible conv => whnf)
  | (rw [mset_ne (by assumption)]; with_reducible conv => whnf)
  | (rw [mset_ne]; rotate_left; (first | assumption | exact Ne.symm (by assumption)); with_reducible conv => whnf)
  | (rw [rdL_ref]; rotate_left; (focus (walk_at "mu"; done)); with_reducible conv => whnf)
  | (rw [rdL_refD]; rotate_left; (focus (walk_at "mu"; done)); with_reducible conv => whnf)
  | (rw [rdD_refD]; rotate_left; (focus (walk_at "mu"; done)); with_reducible conv => whnf)
  | (rw [rdM_ref]; rotate_left; (focus (walk_at "mu"; done)); with_reducible conv => whnf)
  | (rw [rdL_refK]; rotate_left; (focus (walk_at "mu"; done)); with_reducible conv => whnf)
  | (rw [rdD_refK]; rotate_left; (focus (walk_at "mu"; done)); with_reducible conv => whnf)
  | (rw [tyW_refL]; rotate_left; (focus (walk_at "mu"; done)); with_reducible conv => whnf)
  | (rw [tyW_refD]; rotate_left; (focus (walk_at "mu"; done)); with_reducible conv => whnf)
  | (rw [drf_ref]; rotate_left; (focus (walk_at "mu"; done)); with_reducible conv => whnf)
  | ((conv => (arg 2; tactic' => (walk_at "mu"; done))); with_reducible conv => whnf)
  | (with_reducible refine q_and (Eq.refl _) ?_; with_reducible conv => whnf)
  | (with_reducible refine q_and (MulO.r (by decide)) ?_; with_reducible conv => whnf)
  | (with_reducible refine q_and (MulO.l (by decide)) ?_; with_reducible conv => whnf)
  | (with_reducible refine q_and (MulO.r (by omega)) ?_; with_reducible conv => whnf)
  | (with_reducible refine q_and (MulO.l (by omega)) ?_; with_reducible conv => whnf)
  | (with_reducible refine q_pow (by decide) ?_; with_reducible conv => whnf)
  | (with_reducible refine q_nisT (by first | assumption | with_reducible rfl) ?_; with_reducible conv => whnf)
  | (with_reducible refine q_nisF (by first | assumption | with_reducible rfl) ?_; with_reducible conv => whnf)
  | (with_reducible refine q_eqI ?_; with_reducible conv => whnf)
  | (with_reducible refine q_eqS ?_; with_reducible conv => whnf)
  | (with_reducible refine q_eqB ?_; with_reducible conv => whnf)
  | (with_reducible refine q_neI ?_; with_reducible conv => whnf)
  | (with_reducible refine q_neS ?_; with_reducible conv => whnf)
  | (with_reducible refine q_neB ?_; with_reducible conv => whnf)
  | (with_reducible refine q_memc ?_; with_reducible conv => whnf)
  | (with_reducible refine q_lkn (by walk_at "lk") ?_; with_reducible conv => whnf)
  | (with_reducible refine q_tix (by walk_at "lk"; done) ?_; with_reducible conv => whnf)
  | (with_reducible refine q_tin ?_; with_reducible conv => whnf)
  | (rw [pf_hit]; with_reducible conv => whnf)
  | (rw [pf_skip]; rotate_left; (focus (decide +kernel; done)); with_reducible conv => whnf)
  | (rw [lk_hit]; with_reducible conv => whnf)
  | (rw [lk_skip1]; rotate_left; (focus (decide +kernel; done)); with_reducible conv => whnf))))
/-! what the laws draw, as functions: the same draw gives the same -/
def Gives (f : FW) (ws : List W) (w : W) : Prop := ∀ (μ : Mu) (P : Po) (X : Xo), P w μ → f ws μ P X
theorem gv_rich (c k : Int) : ∃ r : Int, Gives f__law_rich [.int c, .int k] (.int r) := by
  by_cases c1 : (10 : Int) ^ (Int.toNat 18) ≤ c
  · refine ⟨c, fun μ P X h => ?_⟩
    rw [f__law_rich_eq]; unfold f__law_rich_B fDef
    refine ⟨rfl, ?_⟩
    walk_at "q"
    exact Rt.now h
  · refine ⟨(c * 48271 + k * 69621 + 11) % 2147483647 * 2147483629 + ((c * 48271 + k * 69621 + 11) % 2147483647 * 16807 + c) % 2147483629, fun μ P X h => ?_⟩
    rw [f__law_rich_eq]; unfold f__law_rich_B fDef
    refine ⟨rfl, ?_⟩
    walk_at "q"
    exact Rt.now h
def chAt (z : Str) (j : Int) : Nat := (z.cps.toList[(j % (z.length : Int)).toNat]?).getD 0
def wst (z : Str) (i : Int) : Nat → Str × Int
  | 0 => ("", i)
  | n + 1 => ((wst z i n).1 ++ ⟨#[chAt z (wst z i n).2]⟩, (wst z i n).2 / (z.length : Int))
theorem wst_len (z : Str) (i : Int) : ∀ n, (wst z i n).1.length = n
  | 0 => rfl
  | n + 1 => by
    show ((wst z i n).1.cps ++ #[chAt z (wst z i n).2]).size = _
    rw [Array.size_append]
    exact congrArg (· + 1) (wst_len z i n)
theorem ch_in (z : Str) (h0 : 0 < z.length) (j : Int) : pick z.cps.toList (j % (z.length : Int)) = some (chAt z j) ∧ chAt z j ∈ z.cps.toList := by
  have h1 : 0 ≤ j % (z.length : Int) := Int.emod_nonneg _ (by omega)
  have h2 : j % (z.length : Int) < (z.length : Int) := Int.emod_lt_of_pos _ (by omega)
  have hk2 : (j % (z.length : Int)).toNat < z.cps.toList.length := by
    have : z.cps.toList.length = z.length := rfl
    omega
  have e : z.cps.toList[(j % (z.length : Int)).toNat]? = some z.cps.toList[(j % (z.length : Int)).toNat] := List.getElem?_eq_getElem hk2
  have e2 : chAt z j = z.cps.toList[(j % (z.length : Int)).toNat] := by
    unfold chAt
    rw [e]
    rfl
  rw [e2]
  exact ⟨pick_nat h1 e, List.getElem_mem hk2⟩
theorem wst_in (z : Str) (h0 : 0 < z.length) (i : Int) : ∀ n, ∀ c ∈ (wst z i n).1.cps.toList, c ∈ z.cps.toList
  | 0, c, hc => by cases hc
  | n + 1, c, hc => by
    have hc : c ∈ ((wst z i n).1.cps ++ #[chAt z (wst z i n).2]).toList := hc
    rw [Array.toList_append] at hc
    rcases List.mem_append.mp hc with q | q
    · exact wst_in z h0 i n c q
    · rw [List.mem_singleton.mp q]
      exact (ch_in z h0 _).2
theorem gv_word {n : Nat} {z : Str} {i : Int} (hn : n ≤ 100) (h0 : 0 < z.length) (hz : z.length ≤ 1000) : Gives f__law_word [.int n, .str z, .int i] (.str (wst z i n).1) := by
  intro μ P X h
  rw [f__law_word_eq]; unfold f__law_word_B fDef
  refine ⟨rfl, ?_⟩
  walk_at "q"
  rw [Int.toNat_natCast]
  refine itS_nums (fun k ρ μ' => μ' = μ ∧ ∃ (x5 : Option W), ρ = [some (.int n), some (.str z), some (.int i), some (.str (wst z i k).1), some (.int (wst z i k).2), x5]) ⟨rfl, none, rfl⟩ (by intros; trivial) ?_ ?_
  · rintro k hk ρ μ' ⟨rfl, x5, rfl⟩ K hK
    have hx := wst_len z i k
    have gp := (ch_in z h0 (wst z i k).2).1
    have hz2 : z.length ≤ 16000000 := by omega
    have hxl : (wst z i k).1.length + (⟨#[chAt z (wst z i k).2]⟩ : Str).length ≤ 16000000 := by
      show (wst z i k).1.length + 1 ≤ _
      omega
    have hd1 : 0 < (z.length : Int) ∧ (z.length : Int) < 1073741824 := by omega
    walk_at "q"
    exact hK _ _ ⟨rfl, _, rfl⟩
  · rintro ρ μ' ⟨rfl, x5, rfl⟩
    walk_at "q"
    exact Rt.now h
theorem gv_key (i : Int) : ∃ x : Str, isKeyB x = true ∧ Gives f__law_key [.int i] (.str x) := by
  obtain ⟨z, hz, hj⟩ := pick_str (l := ["a", "b", "c", "d", "k", "m", "kk", "z"]) (i := i / 4 % 8) (by omega) (by show i / 4 % 8 < 8; omega)
  have hl : ∀ x ∈ (["a", "b", "c", "d", "k", "m", "kk", "z"] : List Str), isKeyB x = true := by decide +kernel
  by_cases c0 : i % 4 < 3
  · refine ⟨z, hl z hz, fun μ P X h => ?_⟩
    rw [f__law_key_eq]; unfold f__law_key_B fDef
    refine ⟨rfl, ?_⟩
    walk_at "q"
    exact Rt.now h
  · obtain ⟨n, hn, hn1, hn2⟩ : ∃ n : Nat, 1 + i / 4 % 8 = (n : Int) ∧ 1 ≤ n ∧ n ≤ 8 := ⟨(1 + i / 4 % 8).toNat, by omega, by omega, by omega⟩
    refine ⟨(wst "abcdefghijklmnopqrstuvwxyz" (i / 32) n).1, ?_, fun μ P X h => ?_⟩
    · have hx := wst_len "abcdefghijklmnopqrstuvwxyz" (i / 32) n
      unfold isKeyB
      rw [decide_eq_true (by omega), Bool.true_and, List.all_eq_true]
      intro c hcx
      have hm := wst_in "abcdefghijklmnopqrstuvwxyz" (by decide +kernel) (i / 32) n c hcx
      have key : ∀ c ∈ ("abcdefghijklmnopqrstuvwxyz" : Str).cps.toList, decide (97 ≤ c ∧ c ≤ 122) = true := by decide +kernel
      exact key c hm
    · rw [f__law_key_eq]; unfold f__law_key_B fDef
      refine ⟨rfl, ?_⟩
      walk_at "q"
      rw [hn]
      exact gv_word (by omega) (by decide +kernel) (by decide +kernel) _ _ _ (Rt.now h)
theorem gv_bound (i : Int) : ∃ x : Str, (isKeyB x || decide (x = "")) = true ∧ Gives f__law_bound [.int i] (.str x) := by
  by_cases c : i % 6 = 5
  · refine ⟨"", by decide +kernel, fun μ P X h => ?_⟩
    rw [f__law_bound_eq]; unfold f__law_bound_B fDef
    refine ⟨rfl, ?_⟩
    walk_at "q"
    exact Rt.now h
  · obtain ⟨x, hx, g⟩ := gv_key (i / 6)
    refine ⟨x, by rw [hx]; rfl, fun μ P X h => ?_⟩
    rw [f__law_bound_eq]; unfold f__law_bound_B fDef
    refine ⟨rfl, ?_⟩
    walk_at "q"
    exact g _ _ _ (Rt.now h)
theorem gv_value (i : Int) : ∃ x : Str, valS x = true ∧ Gives f__law_value [.int i] (.str x) := by
  obtain ⟨z, hz, hj⟩ := pick_str (l := ["x", "y", ""]) (i := i / 4 % 3) (by omega) (by show i / 4 % 3 < 3; omega)
  have hl : ∀ x ∈ (["x", "y", ""] : List Str), valS x = true := by decide +kernel
  by_cases c : i % 4 < 3
  · refine ⟨z, hl z hz, fun μ P X h => ?_⟩
    rw [f__law_value_eq]; unfold f__law_value_B fDef
    refine ⟨rfl, ?_⟩
    walk_at "q"
    exact Rt.now h
  · obtain ⟨n, hn, hn2⟩ : ∃ n : Nat, i / 4 % 41 = (n : Int) ∧ n ≤ 40 := ⟨(i / 4 % 41).toNat, by omega, by omega⟩
    refine ⟨(wst " !\"#$&'()*+,-./0123456789:;<=>?@ABCDEFGHIJKLMNOPQRSTUVWXYZ[\\]^_`abcdefghijklmnopqrstuvwxyz{|}~" (i / 164) n).1, ?_, fun μ P X h => ?_⟩
    · have hx := wst_len " !\"#$&'()*+,-./0123456789:;<=>?@ABCDEFGHIJKLMNOPQRSTUVWXYZ[\\]^_`abcdefghijklmnopqrstuvwxyz{|}~" (i / 164) n
      unfold valS printB
      rw [decide_eq_true (by omega), Bool.and_true, List.all_eq_true]
      intro c hcx
      have hm := wst_in " !\"#$&'()*+,-./0123456789:;<=>?@ABCDEFGHIJKLMNOPQRSTUVWXYZ[\\]^_`abcdefghijklmnopqrstuvwxyz{|}~" (by decide +kernel) (i / 164) n c hcx
      have key : ∀ c ∈ (" !\"#$&'()*+,-./0123456789:;<=>?@ABCDEFGHIJKLMNOPQRSTUVWXYZ[\\]^_`abcdefghijklmnopqrstuvwxyz{|}~" : Str).cps.toList, signB c = true := by decide +kernel
      exact key c hm
    · rw [f__law_value_eq]; unfold f__law_value_B fDef
      refine ⟨rfl, ?_⟩
      walk_at "q"
      rw [hn]
      exact gv_word (by omega) (by decide +kernel) (by decide +kernel) _ _ _ (Rt.now h)
theorem gv_op (i : Int) : ∃ op : Op, op.Ok ∧ Gives f__law_operation [.int i] op.w := by
  obtain ⟨z, hz, hj⟩ := pick_str (l := ["get", "put", "drop", "swap", "page", "put"]) (i := i % 6) (by omega) (by show i % 6 < 6; omega)
  have hz2 : z = "get" ∨ z = "put" ∨ z = "drop" ∨ z = "swap" ∨ z = "page" := by
    simp only [List.mem_cons, List.not_mem_nil, or_false] at hz
    rcases hz with e | e | e | e | e | e <;> simp [e]
  obtain ⟨x, hx, gx⟩ := gv_key (i / 6)
  obtain ⟨y, hy, gy⟩ := gv_value (i / 6 / 500)
  obtain ⟨u, hu, gu⟩ := gv_value (i / 6 / 7000)
  obtain ⟨b, hb, gb⟩ := gv_bound (i / 6)
  rcases hz2 with rfl | rfl | rfl | rfl | rfl
  · refine ⟨.get x, hx, fun μ P X h => ?_⟩
    rw [f__law_operation_eq]; unfold f__law_operation_B fDef
    refine ⟨rfl, ?_⟩
    walk_at "q"
    refine gx _ _ _ ?_
    walk_at "q"
    exact Rt.now h
  · refine ⟨.put x y, ⟨hx, hy⟩, fun μ P X h => ?_⟩
    rw [f__law_operation_eq]; unfold f__law_operation_B fDef
    refine ⟨rfl, ?_⟩
    walk_at "q"
    refine gx _ _ _ ?_
    walk_at "q"
    refine gy _ _ _ ?_
    walk_at "q"
    exact Rt.now h
  · refine ⟨.drop x, hx, fun μ P X h => ?_⟩
    rw [f__law_operation_eq]; unfold f__law_operation_B fDef
    refine ⟨rfl, ?_⟩
    walk_at "q"
    refine gx _ _ _ ?_
    walk_at "q"
    exact Rt.now h
  · refine ⟨.swap x y u, ⟨hx, hy, hu⟩, fun μ P X h => ?_⟩
    rw [f__law_operation_eq]; unfold f__law_operation_B fDef
    refine ⟨rfl, ?_⟩
    walk_at "q"
    refine gx _ _ _ ?_
    walk_at "q"
    refine gy _ _ _ ?_
    walk_at "q"
    refine gu _ _ _ ?_
    walk_at "q"
    exact Rt.now h
  · have fin : ∀ (m : Int), 1 ≤ m → m ≤ 50 → ∃ op : Op, op.Ok ∧ op.w = .tup [.str "page", .str b, .int m] := fun m m1 m2 => by
      obtain ⟨k, hk⟩ : ∃ k : Nat, m = (k : Int) := ⟨m.toNat, by omega⟩
      subst hk
      exact ⟨.page b k, ⟨hb, by omega, by omega⟩, rfl⟩
    by_cases c2 : i / 6 / 1500 % 4 = 0
    · obtain ⟨op, o1, o2⟩ := fin (1 + i / 6 / 6000 % 50) (by omega) (by omega)
      refine ⟨op, o1, fun μ P X h => ?_⟩
      rw [o2] at h
      rw [f__law_operation_eq]; unfold f__law_operation_B fDef
      refine ⟨rfl, ?_⟩
      walk_at "q"
      refine q_go ?_
      walk_at "q"
      refine gb _ _ _ ?_
      walk_at "q"
      exact Rt.now h
    · obtain ⟨op, o1, o2⟩ := fin (1 + i / 6 / 500 % 3) (by omega) (by omega)
      refine ⟨op, o1, fun μ P X h => ?_⟩
      rw [o2] at h
      rw [f__law_operation_eq]; unfold f__law_operation_B fDef
      refine ⟨rfl, ?_⟩
      walk_at "q"
      refine q_go ?_
      walk_at "q"
      refine gb _ _ _ ?_
      walk_at "q"
      exact Rt.now h
end Q
namespace Q
open PySem L2
local macro_rules | `(tactic| walk_at "mu") => `(tactic| (repeat (first | exact mset_same | assumption | (rw [mset_ne]; rotate_left; (first | assumption | exact Ne.symm (by assumption))))))
local macro_rules | `(tactic| walk_at "lk") => `(tactic| (repeat (first | exact lk_hit | exact lk_nil | refine lk_skip (by decide +kernel) ?_)))
local macro_rules | `(tactic| walk_at "pf") => `(tactic| (repeat (first | rw [pf_nil] | rw [pf_hit] | (rw [pf_skip]; rotate_left; (focus (decide +kernel; done))))))
local macro_rules | `(tactic| walk_at "q") => `(tactic| ((with_reducible conv => whnf); repeat (first
  | (with_reducible refine q_t (by assumption) ?_; with_reducible conv => whnf)
  | (with_reducible refine q_f (by assumption) ?_; with_reducible conv => whnf)
  | (with_reducible refine q_t (by with_reducible rfl) ?_; with_reducible conv => whnf)
  | (with_reducible refine q_f (by with_reducible rfl) ?_; with_reducible conv => whnf)
  | (with_reducible refine q_t (by decide) ?_; with_reducible conv => whnf)
  | (with_reducible refine q_f (by decide) ?_; with_reducible conv => whnf)
  | (with_reducible refine q_t (decide_eq_true (by omega)) ?_; with_reducible conv => whnf)
  | (with_reducible refine q_f (decide_eq_false (by omega)) ?_; with_reducible conv => whnf)
  | (with_reducible refine q_f (q_nn (by omega)) ?_; with_reducible conv => whnf)
  | (with_reducible refine q_t (q_nt (by omega)) ?_; with_reducible conv => whnf)
  | (with_reducible refine q_len (by with_unfolding_all rfl) ?_; with_reducible conv => whnf)
  | (with_reducible refine q_leq (by with_unfolding_all rfl) ?_; with_reducible conv => whnf)
  | (with_reducible refine q_and (by first | assumption | exact True.intro | omega | (simp only [List.length_map, List.length_append, List.length_cons, List.length_nil]; omega) | decide) ?_; with_reducible conv => whnf)
  | (with_reducible refine q_le (by with_unfolding_all rfl) ?_; with_reducible conv => whnf)
  | (with_reducible refine q_and tyL_lst ?_; with_reducible conv => whnf)
  | (with_reducible refine q_and tyL_rol ?_; with_reducible conv => whnf)
  | (with_reducible refine q_and (tyL_ref (by walk_at "mu")) ?_; with_reducible conv => whnf)
  | (with_reducible refine q_and (tyD_ref (by walk_at "mu")) ?_; with_reducible conv => whnf)
  | (with_reducible refine q_and (rdD_ref (by walk_at "mu")) ?_; with_reducible conv => whnf)
  | (rw [pick_c0]; with_reducible conv => whnf)
  | (rw [pick_c1]; with_reducible conv => whnf)
  | (rw [pick_c2]; with_reducible conv => whnf)
  | (rw [pick_c3]; with_reducible conv => whnf)
  | (rw [pick_c4]; with_reducible conv => whnf)
  | (rw [pick_c5]; with_reducible conv => whnf)
  | (rw [mset_same]; with_reducible conv => whnf)
  | (rw [mset_ne (by assumption)]; with_reducible conv => whnf)
  | (rw [mset_ne]; rotate_left; (first | assumption | exact Ne.symm (by assumption)); with_reducible conv => whnf)
  | (rw [rdL_ref]; rotate_left; (focus (walk_at "mu"; done)); with_reducible conv => whnf)
  | (rw [rdL_refD]; rotate_left; (focus (walk_at "mu"; done)); with_reducible conv => whnf)
  | (rw [rdD_refD]; rotate_left; (focus (walk_at "mu"; done)); with_reducible conv => whnf)
  | (rw [rdM_ref]; rotate_left; (focus (walk_at "mu"; done)); with_reducible conv => whnf)
  | (rw [rdL_refK]; rotate_left; (focus (walk_at "mu"; done)); with_reducible conv => whnf)
  | (rw [rdD_refK]; rotate_left; (focus (walk_at "mu"; done)); with_reducible conv => whnf)
  | (rw [tyW_refL]; rotate_left; (focus (walk_at "mu"; done)); with_reducible conv => whnf)
  | (rw [tyW_refD]; rotate_left; (focus (walk_at "mu"; done)); with_reducible conv => whnf)
  | (rw [drf_ref]; rotate_left; (focus (walk_at "mu"; done)); with_reducible conv => whnf)
  | ((conv => (arg 2; tactic' => (walk_at "mu"; done))); with_reducible conv => whnf)
  | (with_reducible refine q_and (Eq.refl _) ?_; with_reducible conv => whnf)
  | (with_reducible refine q_and (MulO.r (by decide)) ?_; with_reducible conv => whnf)
  | (with_reducible refine q_and (MulO.l (by decide)) ?_; with_reducible conv => whnf)
  | (with_reducible refine q_and (MulO.r (by omega)) ?_; with_reducible conv => whnf)
  | (with_reducible refine q_and (MulO.l (by omega)) ?_; with_reducible conv => whnf)
  | (with_reducible refine q_pow (by decide) ?_; with_reducible conv => whnf)
  | (with_reducible refine q_nisT (by first | assumption | with_reducible rfl) ?_; with_reducible conv => whnf)
  | (with_reducible refine q_nisF (by first | assumption | with_reducible rfl) ?_; with_reducible conv => whnf)
  | (with_reducible refine q_eqI ?_; with_reducible conv => whnf)
  | (with_reducible refine q_eqS ?_; with_reducible conv => whnf)
  | (with_reducible refine q_eqB ?_; with_reducible conv => whnf)
  | (with_reducible refine q_neI ?_; with_reducible conv => whnf)
  | (with_reducible refine q_neS ?_; with_reducible conv => whnf)
  | (with_reducible refine q_neB ?_; with_reducible conv => whnf)
  | (with_reducible refine q_memc ?_; with_reducible conv => whnf)
  | (with_reducible refine q_lkn (by walk_at "lk") ?_; with_reducible conv => whnf)
  | (with_reducible refine q_tix (by walk_at "lk"; done) ?_; with_reducible conv => whnf)
  | (with_reducible refine q_tin ?_; with_reducible conv => whnf)
  | (rw [pf_hit]; with_reducible conv => whnf)
  | (rw [pf_skip]; rotate_left; (focus (decide +kernel; done)); with_reducible conv => whnf)
  | (rw [lk_hit]; with_reducible conv => whnf)
  | (rw [lk_skip1]; rotate_left; (focus (decide +kernel; done)); with_reducible conv => whnf))))
/-! two shards of the same content serve alike -/
structure Okh (h : Sh) (N : Nat) : Prop where
  r : rngB h.lo h.hi = true
  nd : Nd h.it
  kv : ∀ k v, getT h.it k = some v → isKeyB k = true ∧ valS v = true
  inn : ∀ k, (getT h.it k).isSome = true → hasK h.lo h.hi k = true
  len : h.it.length ≤ N
  nds : Nd h.ss
  slen : h.ss.length ≤ N
  ans : ∀ c x, getT h.ss c = some x → AnsOk x.2
theorem Fil.okh {h : Sh} {n : Nat} (F : Fil h n) : Okh h n := ⟨F.r, F.nd, F.kv, F.inn, F.len, F.nds, F.slen, fun c x g => by
  obtain ⟨_, _, _, _, e⟩ := F.ses c x g
  rw [e]
  exact doneW_ok⟩
def stepS (h : Sh) (c n : Int) (op : Op) : Sh := if statS h.ss c n = "new" then { h with it := itOf h.it op, ss := putT h.ss c (n, ansIt h.it (oS h.hi) op) } else h
def resW (h : Sh) (c n : Int) (op : Op) : W := if statS h.ss c n = "new" then .tup [.str "new", ansIt h.it (oS h.hi) op] else match getT h.ss c with
  | some x => if n = x.1 then .tup [.str "again", x.2] else .tup [.str "stale"]
  | none => .tup [.str "stale"]
theorem step_lo (h : Sh) (c n : Int) (op : Op) : (stepS h c n op).lo = h.lo ∧ (stepS h c n op).hi = h.hi ∧ (stepS h c n op).ep = h.ep := by
  unfold stepS
  split <;> exact ⟨rfl, rfl, rfl⟩
theorem Okh.mono {h : Sh} {N : Nat} (O : Okh h N) : Okh h (N + 1) := ⟨O.r, O.nd, O.kv, O.inn, Nat.le_succ_of_le O.len, O.nds, Nat.le_succ_of_le O.slen, O.ans⟩
theorem Okh.step {h : Sh} {N : Nat} (O : Okh h N) {op : Op} (ho : op.Ok) (hk : hasK h.lo h.hi op.place = true) (c n : Int) : Okh (stepS h c n op) (N + 1) := by
  unfold stepS
  split
  · refine ⟨O.r, nd_itOf O.nd op, fun k v g => ?_, fun k g => ?_, ?_, nd_put O.nds c _, ?_, fun c' x g => ?_⟩
    · have g : getT (itOf h.it op) k = some v := g
      rw [getT_itOf] at g
      split at g
      · rename_i e
        cases op with
        | put a b =>
          cases g
          exact ⟨e ▸ ho.1, ho.2⟩
        | drop a => cases g
        | swap a b d =>
          have g : (if getT h.it k = some b then some d else getT h.it k) = some v := g
          split at g
          · cases g
            exact ⟨e ▸ ho.1, ho.2.2⟩
          · exact O.kv k v g
        | get a => exact O.kv k v g
        | page a b => exact O.kv k v g
      · exact O.kv k v g
    · have g : (getT (itOf h.it op) k).isSome = true := g
      rw [getT_itOf] at g
      split at g
      · rename_i e
        exact e ▸ hk
      · exact O.inn k g
    · have := itOf_len h.it op
      have := O.len
      show (itOf h.it op).length ≤ N + 1
      omega
    · have := putT_len h.ss c (n, ansIt h.it (oS h.hi) op)
      have := O.slen
      show (putT h.ss c (n, ansIt h.it (oS h.hi) op)).length ≤ N + 1
      omega
    · have g : getT (putT h.ss c (n, ansIt h.it (oS h.hi) op)) c' = some x := g
      rw [getT_put] at g
      split at g
      · cases g
        exact ans_ok O.nd O.r O.kv O.inn ho
      · exact O.ans c' x g
  · exact O.mono
structure Same (h h' : Sh) : Prop where
  lo : h.lo = h'.lo
  hi : h.hi = h'.hi
  gI : ∀ k, getT h.it k = getT h'.it k
  gS : ∀ c, getT h.ss c = getT h'.ss c
theorem pgK_same {a b : It} (ha : Nd a) (hb : Nd b) (h : ∀ k, getT a k = getT b k) (z : Str) : pgK a z = pgK b z := by
  unfold pgK
  refine So.pw_only ?_ (So.sortS_pw _) (So.sortS_pw _)
  exact ((So.sortS_perm _).trans ((keys_perm ha hb h).filter _)).trans (So.sortS_perm _).symm
theorem pairW_same {a b : It} (h : ∀ k, getT a k = getT b k) : pairW a = pairW b := by
  funext k
  unfold pairW
  rw [h k]
theorem ans_eq {a b : It} (ha : Nd a) (hb : Nd b) (h : ∀ k, getT a k = getT b k) (hi : W) (op : Op) : ansIt a hi op = ansIt b hi op := by
  cases op with
  | get k => rw [ans_get, ans_get, h k]
  | put k v => rfl
  | drop k =>
    show (match getT a k with
      | none => noneW
      | some _ => doneW) = (match getT b k with
      | none => noneW
      | some _ => doneW)
    rw [h k]
  | swap k o n =>
    show (match getT a k with
      | none => noneW
      | some v => if v = o then doneW else .tup [.str "other", .str v]) = (match getT b k with
      | none => noneW
      | some v => if v = o then doneW else .tup [.str "other", .str v])
    rw [h k]
  | page z m =>
    show W.tup [.str "page", .tup (((pgK a z).take m).map (pairW a)), nxtW ((pgK a z)[m]?) hi] = W.tup [.str "page", .tup (((pgK b z).take m).map (pairW b)), nxtW ((pgK b z)[m]?) hi]
    rw [pgK_same ha hb h, pairW_same h]
theorem stat_same {a b : Ss} (h : ∀ c, getT a c = getT b c) (c n : Int) : statS a c n = statS b c n := by
  unfold statS
  rw [h c]
theorem Same.step {h h' : Sh} (S : Same h h') (hn : Nd h.it) (hn' : Nd h'.it) (c n : Int) (op : Op) : Same (stepS h c n op) (stepS h' c n op) := by
  have ea := ans_eq hn hn' S.gI (oS h'.hi) op
  unfold stepS
  rw [stat_same S.gS c n, S.hi, ea]
  split
  · refine ⟨S.lo, rfl, fun k => ?_, fun c' => ?_⟩
    · show getT (itOf h.it op) k = getT (itOf h'.it op) k
      rw [getT_itOf, getT_itOf, S.gI k]
    · show getT (putT h.ss c _) c' = getT (putT h'.ss c _) c'
      rw [getT_put, getT_put, S.gS c']
  · exact S
theorem Same.con {h h' : Sh} (S : Same h h') (hn : Nd h.it) (hn' : Nd h'.it) (hs : Nd h.ss) (hs' : Nd h'.ss) : conW h = conW h' := by
  unfold conW
  rw [con_eq hn hn' S.gI, rows_eq hs hs' S.gS]
theorem Okh.resD {h : Sh} {N : Nat} (O : Okh h N) {op : Op} (ho : op.Ok) (c n : Int) : isD 58 (resW h c n op) = true := by
  unfold resW
  split
  · show (true && (isD 57 (ansIt h.it (oS h.hi) op) && true)) = true
    rw [isD_mono (n := 50) (by omega) (ans_ok O.nd O.r O.kv O.inn ho).2.2]
    rfl
  · split
    · rename_i x e
      split
      · show (true && (isD 57 x.2 && true)) = true
        rw [isD_mono (n := 50) (by omega) (O.ans c x e).2.2]
        rfl
      · rfl
    · rfl
theorem Okh.conD {h : Sh} {N : Nat} (O : Okh h N) : isD 58 (conW h) = true := by
  have h1 : isDs 56 (conI h.it) = true := isDs_mono (n := 50) (by omega) (con_pairs O.nd O.kv O.inn).2.2
  have h2 : isDs 56 (rowsS h.ss) = true := by
    rw [rows_is]
    refine isDs_map fun y hy => ?_
    have := O.ans y.1 y.2 ((sortSs_in O.nds).mp hy)
    show (true && (true && (isD 55 y.2.2 && true))) = true
    rw [isD_mono (n := 50) (by omega) this.2.2]
    rfl
  show (isDs 56 (conI h.it) && (isDs 56 (rowsS h.ss) && true)) = true
  rw [h1, h2]
  rfl
section
variable {μ : Mu} {P : Po} {X : Xo} {h : Sh} {a : Sa} {N : Nat}
theorem sp_step {c n : Int} {op : Op} (g : ShAt μ a h) (O : Okh h N) (hN : N ≤ 1000) (ho : op.Ok) (hk : hasK h.lo h.hi op.place = true) (k : ∀ μ', ShAt μ' a (stepS h c n op) → (∀ b, b ≠ a.i → b ≠ a.l → μ' b = μ b) → P (resW h c n op) μ') : f_Shard_serve [.ref a.s, .int c, .int n, op.w] μ P X := by
  have h1 := O.len
  have h2 := O.slen
  refine sp_ShServe g ho (by omega) (by omega) (fun z => by rw [hk] at z; cases z) (fun _ e => ?_) (fun _ x ex eq => ?_) fun _ x ex lt => ?_
  · unfold stepS resW at k
    rw [if_pos e, if_pos e] at k
    refine k _ (g.upd _ _) fun b n1 n2 => ?_
    rw [mset_ne n2, mset_ne n1]
  · have e : statS h.ss c n = "again" := by
      unfold statS
      rw [ex]
      exact if_pos eq
    have ne : ¬ statS h.ss c n = "new" := by
      rw [e]
      decide +kernel
    unfold stepS resW at k
    rw [if_neg ne, if_neg ne, ex] at k
    have k := k μ g fun b _ _ => rfl
    simp only at k
    rw [if_pos eq] at k
    exact k
  · have e : statS h.ss c n = "stale" := by
      unfold statS
      rw [ex]
      show (if n = x.1 then ("again" : Str) else if x.1 < n then "new" else "stale") = "stale"
      rw [if_neg (by omega), if_neg (by omega)]
    have ne : ¬ statS h.ss c n = "new" := by
      rw [e]
      decide +kernel
    unfold stepS resW at k
    rw [if_neg ne, if_neg ne, ex] at k
    have k := k μ g fun b _ _ => rfl
    simp only at k
    rw [if_neg (by omega)] at k
    exact k
theorem q_try26 {c : Str} {cs : List Str} {s : FS} {r : List (List Str × FS)} {N : En} {ρ : Rho} {fs : List (Str × W)} {μ : Mu} (hm : c ∈ cs) (h : s ρ μ (noEx N)) : tryX ((cs, s) :: r) N ρ c fs μ := (if_pos hm).mpr h
/-! made, as the law calls it -/
theorem sp_lmNo {p0 p1 p2 p3 p4 : W} {b : Bool} (d0 : pl p0 = true) (d1 : pl p1 = true) (d2 : pl p2 = true) (h : (rangeW p0 p1 && numW p2) = false) (k : P .non μ) : f__law_made_2 [.lst [p0, p1, p2, p3, p4], .bl b] μ P X := by
  rw [f__law_made_2_eq]; unfold f__law_made_2_B fDef
  refine ⟨rfl, ?_⟩
  cases b with
  | true =>
    walk_at "q"
    refine sp_mkBad d0 d1 d2 p3 p4 h ?_
    refine ⟨by decide +kernel, ?_⟩
    refine q_try26 (List.mem_singleton.mpr rfl) ?_
    walk_at "q"
    exact Rt.now k
  | false =>
    walk_at "q"
    intro s hs
    refine sp_ShBad d0 d1 d2 h hs ?_
    refine ⟨by decide +kernel, ?_⟩
    refine q_try26 (List.mem_singleton.mpr rfl) ?_
    walk_at "q"
    exact Rt.now k
theorem sp_lmNo2 {lo : Str} {hi : Option Str} {ep : Int} {p r : W} (hr : rngB lo hi = true) (he : epB ep = true) (dp1 : dp p = true) (dp2 : dp r = true) (h : (inPairs (.str lo) (oS hi) p && rowsW r) = false) (k : P .non μ) : f__law_made_2 [.lst [.str lo, oS hi, .int ep, p, r], .bl true] μ P X := by
  rw [f__law_made_2_eq]; unfold f__law_made_2_B fDef
  refine ⟨rfl, ?_⟩
  walk_at "q"
  refine sp_mkNo hr he dp1 dp2 h ?_
  refine ⟨by decide +kernel, ?_⟩
  refine q_try26 (List.mem_singleton.mpr rfl) ?_
  walk_at "q"
  exact Rt.now k
theorem sp_lmPlain {lo : Str} {hi : Option Str} {ep : Int} {p r : W} (hr : rngB lo hi = true) (he : epB ep = true) (k : ∀ b μ', ShNew μ μ' b ⟨lo, hi, ep, [], []⟩ → P (.ref b.s) μ') : f__law_made_2 [.lst [.str lo, oS hi, .int ep, p, r], .bl false] μ P X := by
  rw [f__law_made_2_eq]; unfold f__law_made_2_B fDef
  refine ⟨rfl, ?_⟩
  walk_at "q"
  intro s hs
  refine sp_ShInit hr he hs fun i e l n1 n2 n3 n4 n5 n6 hi0 he0 hl0 => ?_
  refine ⟨rfl, ?_⟩
  refine Rt.now (k ⟨s, i, e, l⟩ _ ⟨fun b o hb => ?_, ⟨mset_same, ?_, ?_, ?_, Ne.symm n5⟩, hi0, hl0⟩)
  · rw [mset_ne (ne_old hb hs), mset_ne (ne_old hb he0), mset_ne (ne_old hb hl0), mset_ne (ne_old hb hi0), hb]
  · show mset _ _ _ i = _
    rw [mset_ne n1, mset_ne (Ne.symm n4), mset_ne (Ne.symm n5), mset_same]
    rfl
  · show mset _ _ _ e = _
    rw [mset_ne n2, mset_same]
  · show mset _ _ _ l = _
    rw [mset_ne n3, mset_ne n6, mset_same]
    rfl
end
end Q
namespace Q
open PySem L2
local macro_rules | `(tactic| walk_at "mu") => `(tactic| (repeat (first | exact mset_same | assumption | (rw [mset_ne]; rotate_left; (first | assumption | exact Ne.symm (by assumption))))))
local macro_rules | `(tactic| walk_at "lk") => `(tactic| (repeat (first | exact lk_hit | exact lk_nil | refine lk_skip (by decide +kernel) ?_)))
local macro_rules | `(tactic| walk_at "pf") => `(tactic| (repeat (first | rw [pf_nil] | rw [pf_hit] | (rw [pf_skip]; rotate_left; (focus (decide +kernel; done))))))
local macro_rules | `(tactic| walk_at "q") => `(tactic| ((with_reducible conv => whnf); repeat (first
  | (with_reducible refine q_t (by assumption) ?_; with_reducible conv => whnf)
  | (with_reducible refine q_f (by assumption) ?_; with_reducible conv => whnf)
  | (with_reducible refine q_t (by with_reducible rfl) ?_; with_reducible conv => whnf)
  | (with_reducible refine q_f (by with_reducible rfl) ?_; with_reducible conv => whnf)
  | (with_reducible refine q_t (by decide) ?_; with_reducible conv => whnf)
  | (with_reducible refine q_f (by decide) ?_; with_reducible conv => whnf)
  | (with_reducible refine q_t (decide_eq_true (by omega)) ?_; with_reducible conv => whnf)
  | (with_reducible refine q_f (decide_eq_false (by omega)) ?_; with_reducible conv => whnf)
  | (with_reducible refine q_f (q_nn (by omega)) ?_; with_reducible conv => whnf)
  | (with_reducible refine q_t (q_nt (by omega)) ?_; with_reducible conv => whnf)
  | (with_reducible refine q_len (by with_unfolding_all rfl) ?_; with_reducible conv => whnf)
  | (with_reducible refine q_leq (by with_unfolding_all rfl) ?_; with_reducible conv => whnf)
  | (with_reducible refine q_and (by first | assumption | exact True.intro | omega | (simp only [List.length_map, List.length_append, List.length_cons, List.length_nil]; omega) | decide) ?_; with_reducible conv => whnf)
  | (with_reducible refine q_le (by with_unfolding_all rfl) ?_; with_reducible conv => whnf)
  | (with_reducible refine q_and tyL_lst ?_; with_reducible conv => whnf)
  | (with_reducible refine q_and tyL_rol ?_; with_reducible conv => whnf)
  | (with_reducible refine q_and (tyL_ref (by walk_at "mu")) ?_; with_reducible conv => whnf)
  | (with_reducible refine q_and (tyD_ref (by walk_at "mu")) ?_; with_reducible conv => whnf)
  | (with_reducible refine q_and (rdD_ref (by walk_at "mu")) ?_; with_reducible conv => whnf)
  | (rw [pick_c0]; with_reducible conv => whnf)
  | (rw [pick_c1]; with_reducible conv => whnf)
  | (rw [pick_c2]; with_reducible conv => whnf)
  | (rw [pick_c3]; with_reducible conv => whnf)
  | (rw [pick_c4]; with_reducible conv => whnf)
  | (rw [pick_c5]; with_reducible conv => whnf)
  | (rw [mset_same]; with_reducible conv => whnf)
  | (rw [mset_ne (by assumption)]; with_reducible conv => whnf)
  | (rw [mset_ne]; rotate_left; (first | assumption | exact Ne.symm (by assumption)); with_reducible conv => whnf)
  | (rw [rdL_ref]; rotate_left; (focus (walk_at "mu"; done)); with_reducible conv => whnf)
  | (rw [rdL_refD]; rotate_left; (focus (walk_at "mu"; done)); with_reducible conv => whnf)
  | (rw [rdD_refD]; rotate_left; (focus (walk_at "mu"; done)); with_reducible conv => whnf)
  | (rw [rdM_ref]; rotate_left; (focus (walk_at "mu"; done)); with_reducible conv => whnf)
  | (rw [rdL_refK]; rotate_left; (focus (walk_at "mu"; done)); with_reducible conv => whnf)
  | (rw [rdD_refK]; rotate_left; (focus (walk_at "mu"; done)); with_reducible conv => whnf)
  | (rw [tyW_refL]; rotate_left; (focus (walk_at "mu"; done)); with_reducible conv => whnf)
  | (rw [tyW_refD]; rotate_left; (focus (walk_at "mu"; done)); with_reducible conv => whnf)
  | (rw [drf_ref]; rotate_left; (focus (walk_at "mu"; done)); with_reducible conv => whnf)
  | ((conv => (arg 2; tactic' => (walk_at "mu"; done))); with_reducible conv => whnf)
  | (with_reducible refine q_and (Eq.refl _) ?_; with_reducible conv => whnf)
  | (with_reducible refine q_and (MulO.r (by decide)) ?_; with_reducible conv => whnf)
  | (with_reducible refine q_and (MulO.l (by decide)) ?_; with_reducible conv => whnf)
  | (with_reducible refine q_and (MulO.r (by omega)) ?_; with_reducible conv => whnf)
  | (with_reducible refine q_and (MulO.l (by omega)) ?_; with_reducible conv => whnf)
  | (with_reducible refine q_pow (by decide) ?_; with_reducible conv => whnf)
  | (with_reducible refine q_nisT (by first | assumption | with_reducible rfl) ?_; with_reducible conv => whnf)
  | (with_reducible refine q_nisF (by first | assumption | with_reducible rfl) ?_; with_reducible conv => whnf)
  | (with_reducible refine q_eqI ?_; with_reducible conv => whnf)
  | (with_reducible refine q_eqS ?_; with_reducible conv => whnf)
  | (with_reducible refine q_eqB ?_; with_reducible conv => whnf)
  | (with_reducible refine q_neI ?_; with_reducible conv => whnf)
  | (with_reducible refine q_neS ?_; with_reducible conv => whnf)
  | (with_reducible refine q_neB ?_; with_reducible conv => whnf)
  | (with_reducible refine q_memc ?_; with_reducible conv => whnf)
  | (with_reducible refine q_lkn (by walk_at "lk") ?_; with_reducible conv => whnf)
  | (with_reducible refine q_tix (by walk_at "lk"; done) ?_; with_reducible conv => whnf)
  | (with_reducible refine q_tin ?_; with_reducible conv => whnf)
  | (rw [pf_hit]; with_reducible conv => whnf)
  | (rw [pf_skip]; rotate_left; (focus (decide +kernel; done)); with_reducible conv => whnf)
  | (rw [lk_hit]; with_reducible conv => whnf)
  | (rw [lk_skip1]; rotate_left; (focus (decide +kernel; done)); with_reducible conv => whnf))))
/-! made of a content: the law -/
theorem chn_pw {α : Type} {lt : α → α → Bool} (tr : ∀ a b c, lt a b = true → lt b c = true → lt a c = true) : ∀ {l : List α}, chn lt l = true → l.Pairwise fun a b => lt a b = true
  | [], _ => List.Pairwise.nil
  | [x], _ => List.pairwise_singleton _ _
  | x :: y :: r, h => by
    obtain ⟨h1, h2⟩ := Bool.and_eq_true_iff.mp h
    have ih := chn_pw tr h2
    refine List.pairwise_cons.mpr ⟨fun z hz => ?_, ih⟩
    rcases List.mem_cons.mp hz with rfl | hz
    · exact h1
    · exact tr _ _ _ h1 ((List.pairwise_cons.mp ih).1 z hz)
theorem rise_it {l : It} (h : chn ltP l = true) : Nd l ∧ conI l = l.map prW := by
  have pw := chn_pw (lt := ltP) (fun a b c h1 h2 => So.sLt_tr h1 h2) h
  have pk : (keysT l).Pairwise fun a b => sLt a b = true := List.pairwise_map.mpr pw
  have nd : Nd l := pk.imp fun e z => by
    rw [z, So.sLt_irr] at e
    cases e
  refine ⟨nd, ?_⟩
  have ek : So.sortS (keysT l) = keysT l := So.pw_only (So.sortS_perm _) (So.sortS_pw _) (pk.imp fun e => by
    show So.leS _ _ = true
    unfold So.leS
    rw [So.sLt_as e]
    rfl)
  unfold conI
  rw [ek]
  unfold keysT
  rw [List.map_map]
  refine List.map_congr_left fun x hx => ?_
  show pairW l x.1 = prW x
  unfold pairW
  rw [nd_mem nd hx]
  rfl
theorem rise_ss {m : Ss} (h : chn ltR m = true) : Nd m ∧ rowsS m = m.map rwW := by
  have pw := chn_pw (lt := ltR) (fun a b c h1 h2 => decide_eq_true (Int.lt_trans (of_decide_eq_true h1) (of_decide_eq_true h2))) h
  have pk : (keysT m).Pairwise fun a b => a < b := List.pairwise_map.mpr (pw.imp fun e => of_decide_eq_true e)
  have nd : Nd m := pk.imp fun e z => by omega
  refine ⟨nd, ?_⟩
  have ek : So.sortI (keysT m) = keysT m := (So.sortedI_only (List.Perm.refl _) (pk.imp fun e => by omega)).symm
  unfold rowsS
  rw [ek]
  unfold keysT
  rw [List.map_map]
  refine List.map_congr_left fun x hx => ?_
  show rowW x.1 ((getT m x.1).getD (0, .non)) = rwW x
  rw [nd_mem nd hx]
  rfl
section
variable {μ : Mu} {P : Po} {X : Xo} {h : Sh} {n : Nat}
theorem Fil.sub_okh (F : Fil h n) (hn : n ≤ 100) {lo : Str} {hi : Option Str} {ep : Int} {l : It} {m : Ss} (hr : rngB lo hi = true) (hl : ∀ x ∈ l, x ∈ sortIt h.it ∧ hasK lo hi x.1 = true) (hm : ∀ x ∈ m, x ∈ sortSs h.ss) (c1 : chn ltP l = true) (c2 : chn ltR m = true) : Okh ⟨lo, hi, ep, l, m⟩ n where
  r := hr
  nd := (rise_it c1).1
  kv := fun k v g => F.pOk (k, v) (hl _ (getT_mem g)).1
  inn := fun k g => by
    obtain ⟨v, e⟩ := Option.isSome_iff_exists.mp g
    exact (hl _ (getT_mem e)).2
  len := by
    have := nodup_le (a := keysT l) (b := keysT h.it) (rise_it c1).1 fun k hk => by
      obtain ⟨x, hx, rfl⟩ := List.mem_map.mp hk
      rw [mem_keysT, (sortIt_in F.nd).mp (hl x hx).1]
      rfl
    rw [keysT_len, keysT_len] at this
    exact Nat.le_trans this F.len
  nds := (rise_ss c2).1
  slen := by
    have := nodup_le (a := keysT m) (b := keysT h.ss) (rise_ss c2).1 fun k hk => by
      obtain ⟨x, hx, rfl⟩ := List.mem_map.mp hk
      rw [mem_keysT, (sortSs_in F.nds).mp (hm x hx)]
      rfl
    rw [keysT_len, keysT_len] at this
    exact Nat.le_trans this F.slen
  ans := fun c x g => by
    obtain ⟨_, _, _, _, e⟩ := F.ses c x ((sortSs_in F.nds).mp (hm (c, x) (getT_mem g)))
    rw [e]
    exact doneW_ok
theorem sp_lmWhole {lo : Str} {hi : Option Str} {ep : Int} {it : It} {ss : Ss} (O : Okh ⟨lo, hi, ep, it, ss⟩ n) (hn : n ≤ 100) (he : epB ep = true) (dp1 : dp (.tup (it.map prW)) = true) (dp2 : dp (.tup (ss.map rwW)) = true) (ip : inPairs (.str lo) (oS hi) (.tup (it.map prW)) = true) (ir : rowsW (.tup (ss.map rwW)) = true) (k : ∀ b μ', ShNew μ μ' b ⟨lo, hi, ep, it, ss⟩ → P (.ref b.s) μ') : f__law_made_2 [.lst [.str lo, oS hi, .int ep, .tup (it.map prW), .tup (ss.map rwW)], .bl true] μ P X := by
  have l1 : it.length ≤ n := O.len
  have l2 : ss.length ≤ n := O.slen
  rw [f__law_made_2_eq]; unfold f__law_made_2_B fDef
  refine ⟨rfl, ?_⟩
  walk_at "q"
  refine sp_made_ O.r he O.nd O.nds dp1 dp2 ip ir (by omega) (by omega) fun b μ' g => ?_
  exact Rt.now (k b μ' g)
theorem whole_in {lo : Str} {hi : Option Str} {l : It} (hv : ∀ x ∈ l, isKeyB x.1 = true ∧ valS x.2 = true) (hk : ∀ x ∈ l, hasK lo hi x.1 = true) (c : chn ltP l = true) : inPairs (.str lo) (oS hi) (.tup (l.map prW)) = true := by
  show (risB "" (l.map prW) && (l.map prW).all (inB (.str lo) (oS hi))) = true
  rw [ris_chn hv, c, Bool.and_true, Bool.and_eq_true_iff]
  constructor
  · cases l with
    | nil => rfl
    | cons x r => exact slt_nil2 (hv x List.mem_cons_self).1
  · rw [List.all_map, List.all_eq_true]
    intro x hx
    have := hk x hx
    have ei : inB (.str lo) (oS hi) (prW x) = hasK lo hi x.1 := by
      cases hi with
      | none => rfl
      | some y => rfl
    show inB (.str lo) (oS hi) (prW x) = true
    rw [ei, this]
theorem whole_rows {m : Ss} (hv : ∀ x ∈ m, rowB (rwW x) = true) (c : chn ltR m = true) : rowsW (.tup (m.map rwW)) = true := by
  show rowsL none (m.map rwW) = true
  rw [rows_chn hv, c, Bool.and_true]
  cases m with
  | nil => rfl
  | cons x r => rfl
end
/-! the draws of the law -/
theorem gv_ops (ns : List Int) : ∃ f : Nat → Op, (∀ k, (f k).Ok) ∧ ∀ k (hk : k < ns.length), ∃ r : Int, Gives f__law_rich [.int ns[k], .int (60 + (k : Int))] (.int r) ∧ Gives f__law_operation [.int r] (f k).w := by
  have key : ∀ k, ∃ op : Op, op.Ok ∧ ∀ (hk : k < ns.length), ∃ r : Int, Gives f__law_rich [.int ns[k], .int (60 + (k : Int))] (.int r) ∧ Gives f__law_operation [.int r] op.w := fun k => by
    by_cases hk : k < ns.length
    · obtain ⟨r, g⟩ := gv_rich ns[k] (60 + (k : Int))
      obtain ⟨op, o, g2⟩ := gv_op r
      exact ⟨op, o, fun _ => ⟨r, g, g2⟩⟩
    · obtain ⟨op, o, _⟩ := gv_op 0
      exact ⟨op, o, fun h => absurd h hk⟩
  exact ⟨fun k => (key k).choose, fun k => (key k).choose_spec.1, fun k hk => (key k).choose_spec.2 hk⟩
/-- after k requests -/
def runS (f : Nat → Op) (h : Sh) : Nat → Sh
  | 0 => h
  | k + 1 => if hasK h.lo h.hi (f k).place = true then stepS (runS f h k) (-2) (90 + (k : Int) / 2) (f k) else runS f h k
theorem run_lo (f : Nat → Op) (h : Sh) : ∀ k, (runS f h k).lo = h.lo ∧ (runS f h k).hi = h.hi ∧ (runS f h k).ep = h.ep
  | 0 => ⟨rfl, rfl, rfl⟩
  | k + 1 => by
    unfold runS
    split
    · obtain ⟨a, b, c⟩ := step_lo (runS f h k) (-2) (90 + (k : Int) / 2) (f k)
      obtain ⟨a', b', c'⟩ := run_lo f h k
      exact ⟨a.trans a', b.trans b', c.trans c'⟩
    · exact run_lo f h k
theorem run_ok {f : Nat → Op} (hf : ∀ k, (f k).Ok) {h : Sh} {N : Nat} (O : Okh h N) : ∀ k, Okh (runS f h k) (N + k)
  | 0 => O
  | k + 1 => by
    unfold runS
    split
    · rename_i c
      obtain ⟨a, b, _⟩ := run_lo f h k
      exact (run_ok hf O k).step (hf k) (by rw [a, b]; exact c) _ _
    · exact (run_ok hf O k).mono
theorem run_same {f : Nat → Op} (hf : ∀ k, (f k).Ok) {h h' : Sh} {N : Nat} (S : Same h h') (O : Okh h N) (O' : Okh h' N) : ∀ k, Same (runS f h k) (runS f h' k)
  | 0 => S
  | k + 1 => by
    unfold runS
    rw [S.lo, S.hi]
    split
    · exact (run_same hf S O O' k).step (run_ok hf O k).nd (run_ok hf O' k).nd _ _ _
    · exact run_same hf S O O' k
end Q
namespace Q
open PySem L2
local macro_rules | `(tactic| walk_at "mu") => `(tactic| (repeat (first | exact mset_same | assumption | (rw [mset_ne]; rotate_left; (first | assumption | exact Ne.symm (by assumption))))))
local macro_rules | `(tactic| walk_at "lk") => `(tactic| (repeat (first | exact lk_hit | exact lk_nil | refine lk_skip (by decide +kernel) ?_)))
local macro_rules | `(tactic| walk_at "pf") => `(tactic| (repeat (first | rw [pf_nil] | rw [pf_hit] | (rw [pf_skip]; rotate_left; (focus (decide +kernel; done))))))
local macro_rules | `(tactic| walk_at "q") => `(tactic| ((with_reducible conv => whnf); repeat (first
  | (with_reducible refine q_t (by assumption) ?_; with_reducible conv => whnf)
  | (with_reducible refine q_f (by assumption) ?_; with_reducible conv => whnf)
  | (with_reducible refine q_t (by with_reducible rfl) ?_; with_reducible conv => whnf)
  | (with_reducible refine q_f (by with_reducible rfl) ?_; with_reducible conv => whnf)
  | (with_reducible refine q_t (by decide) ?_; with_reducible conv => whnf)
  | (with_reducible refine q_f (by decide) ?_; with_reducible conv => whnf)
  | (with_reducible refine q_t (decide_eq_true (by omega)) ?_; with_reducible conv => whnf)
  | (with_reducible refine q_f (decide_eq_false (by omega)) ?_; with_reducible conv => whnf)
  | (with_reducible refine q_f (q_nn (by omega)) ?_; with_reducible conv => whnf)
  | (with_reducible refine q_t (q_nt (by omega)) ?_; with_reducible conv => whnf)
  | (with_reducible refine q_len (by with_unfolding_all rfl) ?_; with_reducible conv => whnf)
  | (with_reducible refine q_leq (by with_unfolding_all rfl) ?_; with_reducible conv => whnf)
  | (with_reducible refine q_and (by first | assumption | exact True.intro | omega | (simp only [List.length_map, List.length_append, List.length_cons, List.length_nil]; omega) | decide) ?_; with_reducible conv => whnf)
  | (with_reducible refine q_le (by with_unfolding_all rfl) ?_; with_reducible conv => whnf)
  | (with_reducible refine q_and tyL_lst ?_; with_reducible conv => whnf)
  | (with_reducible refine q_and tyL_rol ?_; with_reducible conv => whnf)
  | (with_reducible refine q_and (tyL_ref (by walk_at "mu")) ?_; with_reducible conv => whnf)
  | (with_reducible refine q_and (tyD_ref (by walk_at "mu")) ?_; with_reducible conv => whnf)
  | (with_reducible refine q_and (rdD_ref (by walk_at "mu")) ?_; with_reducible conv => whnf)
  | (rw [pick_c0]; with_reducible conv => whnf)
  | (rw [pick_c1]; with_reducible conv => whnf)
  | (rw [pick_c2]; with_reducible conv => whnf)
  | (rw [pick_c3]; with_reducible conv => whnf)
  | (rw [pick_c4]; with_reducible conv => whnf)
  | (rw [pick_c5]; with_reducible conv => whnf)
  | (rw [mset_same]; with_reducible conv => whnf)
  | (rw [mset_ne (by assumption)]; with_reducible conv => whnf)
  | (rw [mset_ne]; rotate_left; (first | assumption | exact Ne.symm (by assumption)); with_reducible conv => whnf)
  | (rw [rdL_ref]; rotate_left; (focus (walk_at "mu"; done)); with_reducible conv => whnf)
  | (rw [rdL_refD]; rotate_left; (focus (walk_at "mu"; done)); with_reducible conv => whnf)
  | (rw [rdD_refD]; rotate_left; (focus (walk_at "mu"; done)); with_reducible conv => whnf)
  | (rw [rdM_ref]; rotate_left; (focus (walk_at "mu"; done)); with_reducible conv => whnf)
  | (rw [rdL_refK]; rotate_left; (focus (walk_at "mu"; done)); with_reducible conv => whnf)
  | (rw [rdD_refK]; rotate_left; (focus (walk_at "mu"; done)); with_reducible conv => whnf)
  | (rw [tyW_refL]; rotate_left; (focus (walk_at "mu"; done)); with_reducible conv => whnf)
  | (rw [tyW_refD]; rotate_left; (focus (walk_at "mu"; done)); with_reducible conv => whnf)
  | (rw [drf_ref]; rotate_left; (focus (walk_at "mu"; done)); with_reducible conv => whnf)
  | ((conv => (arg 2; tactic' => (walk_at "mu"; done))); with_reducible conv => whnf)
  | (with_reducible refine q_and (Eq.refl _) ?_; with_reducible conv => whnf)
  | (with_reducible refine q_and (MulO.r (by decide)) ?_; with_reducible conv => whnf)
  | (with_reducible refine q_and (MulO.l (by decide)) ?_; with_reducible conv => whnf)
  | (with_reducible refine q_and (MulO.r (by omega)) ?_; with_reducible conv => whnf)
  | (with_reducible refine q_and (MulO.l (by omega)) ?_; with_reducible conv => whnf)
  | (with_reducible refine q_pow (by decide) ?_; with_reducible conv => whnf)
  | (with_reducible refine q_nisT (by first | assumption | with_reducible rfl) ?_; with_reducible conv => whnf)
  | (with_reducible refine q_nisF (by first | assumption | with_reducible rfl) ?_; with_reducible conv => whnf)
  | (with_reducible refine q_eqI ?_; with_reducible conv => whnf)
  | (with_reducible refine q_eqS ?_; with_reducible conv => whnf)
  | (with_reducible refine q_eqB ?_; with_reducible conv => whnf)
  | (with_reducible refine q_neI ?_; with_reducible conv => whnf)
  | (with_reducible refine q_neS ?_; with_reducible conv => whnf)
  | (with_reducible refine q_neB ?_; with_reducible conv => whnf)
  | (with_reducible refine q_memc ?_; with_reducible conv => whnf)
  | (with_reducible refine q_lkn (by walk_at "lk") ?_; with_reducible conv => whnf)
  | (with_reducible refine q_tix (by walk_at "lk"; done) ?_; with_reducible conv => whnf)
  | (with_reducible refine q_tin ?_; with_reducible conv => whnf)
  | (rw [pf_hit]; with_reducible conv => whnf)
  | (rw [pf_skip]; rotate_left; (focus (decide +kernel; done)); with_reducible conv => whnf)
  | (rw [lk_hit]; with_reducible conv => whnf)
  | (rw [lk_skip1]; rotate_left; (focus (decide +kernel; done)); with_reducible conv => whnf))))
theorem con0 {lo : Str} {hi : Option Str} {ep : Int} : conW ⟨lo, hi, ep, [], []⟩ = .tup [.tup [], .tup []] := by
  have e1 : conI [] = [] := List.eq_nil_of_length_eq_zero (by rw [con_len]; rfl)
  have e2 : rowsS [] = [] := List.eq_nil_of_length_eq_zero (by rw [rows_len]; rfl)
  unfold conW
  simp only [e1, e2]
theorem ShAt.frame {μ μ' : Mu} {a x : Sa} {h hx : Sh} (g : ShAt μ a h) (gx : ShAt μ x hx) (n : a.i ≠ x.i ∧ a.i ≠ x.l ∧ a.l ≠ x.i ∧ a.l ≠ x.l) (e : ∀ b, b ≠ x.i → b ≠ x.l → μ' b = μ b) : ShAt μ' a h where
  s := by rw [e _ (ne_dif g.s gx.i (by intro z; cases z)) (ne_dif g.s gx.l (by intro z; cases z)), g.s]
  i := by rw [e _ n.1 n.2.1, g.i]
  e := by rw [e _ (ne_dif g.e gx.i (by intro z; cases z)) (ne_dif g.e gx.l (by intro z; cases z)), g.e]
  l := by rw [e _ n.2.2.1 n.2.2.2, g.l]
  il := g.il
theorem ShNew.far {μ μ' : Mu} {a b : Sa} {h h' : Sh} (g : ShAt μ a h) (nw : ShNew μ μ' b h') : a.i ≠ b.i ∧ a.i ≠ b.l ∧ a.l ≠ b.i ∧ a.l ≠ b.l := ⟨ne_old g.i nw.i, ne_old g.i nw.l, ne_old g.l nw.i, ne_old g.l nw.l⟩
theorem far_sym {a b : Sa} (h : a.i ≠ b.i ∧ a.i ≠ b.l ∧ a.l ≠ b.i ∧ a.l ≠ b.l) : b.i ≠ a.i ∧ b.i ≠ a.l ∧ b.l ≠ a.i ∧ b.l ≠ a.l := ⟨Ne.symm h.1, Ne.symm h.2.2.1, Ne.symm h.2.1, Ne.symm h.2.2.2⟩
theorem wNeq_gen {x y : W} {μ : Mu} {P : Po} (hx : isD 60 x = true) (hy : isD 60 y = true) (h : P (.bl (!eqW x y)) μ) : wNeq x y μ P := by
  have ex := isD_drf (μ := μ) hx
  have ey := isD_drf (μ := μ) hy
  have g : wEqG true x y μ P := by
    refine ⟨by rw [ex]; exact hx, by rw [ey]; exact hy, ?_⟩
    rw [ex, ey, if_pos rfl]
    exact h
  unfold wNeq wNe
  cases x <;> cases y <;> first
    | exact g
    | exact h
theorem eqWs_map {α : Type} {f : α → W} : ∀ {l : List α} {ws : List W}, (∀ x ∈ l, ∀ w, eqW (f x) w = true → w = f x) → eqWs (l.map f) ws = true → ws = l.map f
  | [], [], _, _ => rfl
  | [], _ :: _, _, h => by cases h
  | _ :: _, [], _, h => by cases h
  | x :: l, w :: ws, hf, h => by
    obtain ⟨h1, h2⟩ := Bool.and_eq_true_iff.mp (show (eqW (f x) w && eqWs (l.map f) ws) = true from h)
    rw [hf x List.mem_cons_self w h1, eqWs_map (fun y hy => hf y (List.mem_cons_of_mem _ hy)) h2]
    rfl
theorem eq_str {x y : Str} (h : eqW (.str x) (.str y) = true) : x = y := eq_of_beq (show (x == y) = true from h)
theorem eq_oS {x y : Option Str} (h : eqW (oS x) (oS y) = true) : x = y := by
  cases x with
  | none =>
    cases y with
    | none => rfl
    | some y => cases h
  | some x =>
    cases y with
    | none => cases h
    | some y => rw [eq_str h]
theorem prW_inj (x y : Str × Str) (h : prW x = prW y) : x = y := by
  unfold prW at h
  simp only [W.tup.injEq, List.cons.injEq, W.str.injEq, and_true] at h
  exact Prod.ext h.1 h.2
theorem rwW_inj (x y : Int × (Int × W)) (h : rwW x = rwW y) : x = y := by
  unfold rwW rowW at h
  simp only [W.tup.injEq, List.cons.injEq, W.int.injEq, and_true] at h
  exact Prod.ext h.1 (Prod.ext h.2.1 h.2.2)
theorem same_of {h : Sh} {n : Nat} (F : Fil h n) {lo : Str} {hi : Option Str} {ep : Int} {l : It} {m : Ss} (hm : ∀ x ∈ m, x ∈ sortSs h.ss) (e1 : eqW (.lst [.str lo, oS hi, .int ep]) (.lst [.str h.lo, oS h.hi, .int h.ep]) = true) (e2 : eqW (.tup [.tup (l.map prW), .tup (m.map rwW)]) (.tup [.tup (conI h.it), .tup (rowsS h.ss)]) = true) : Same ⟨lo, hi, ep, l, m⟩ h := by
  obtain ⟨a1, a2⟩ := Bool.and_eq_true_iff.mp (show (eqW (.str lo) (.str h.lo) && (eqW (oS hi) (oS h.hi) && (eqW (.int ep) (.int h.ep) && true))) = true from e1)
  obtain ⟨b1, b2⟩ := Bool.and_eq_true_iff.mp (show (eqWs (l.map prW) (conI h.it) && (eqWs (m.map rwW) (rowsS h.ss) && true)) = true from e2)
  have c1 := eqWs_map (fun x _ w e => eq_prW e) b1
  have c2 := eqWs_map (fun x hx w e => by
    obtain ⟨_, k1, k2, _, k3⟩ := F.ses x.1 x.2 ((sortSs_in F.nds).mp (hm x hx))
    exact eq_rwW k1 k2 k3 e) (Bool.and_eq_true_iff.mp b2).1
  rw [con_is] at c1
  rw [rows_is] at c2
  have d1 : sortIt h.it = l := (List.map_inj_right prW_inj).mp c1
  have d2 : sortSs h.ss = m := (List.map_inj_right rwW_inj).mp c2
  refine ⟨eq_str a1, eq_oS (Bool.and_eq_true_iff.mp a2).1, fun k => ?_, fun c => ?_⟩
  · show getT l k = _
    rw [← d1, sortIt_get]
  · show getT m c = _
    rw [← d2, sortSs_get]
theorem op_shp (op : Op) : ∃ k r, op.w = .tup (.str k :: .str op.place :: r) := by cases op <;> exact ⟨_, _, rfl⟩
theorem cut3 (a b c d e : W) : cutL [a, b, c, d, e] none (some 3) = [a, b, c] := rfl
theorem law_k26 : LawOk f_law_13 63 := by
  intro ns hl P X hP
  rw [f_law_13_eq]; unfold f_law_13_B fDef
  refine ⟨rfl, ?_⟩
  walk_at "q"
  refine sp__law_cell_2 (k := 0) fun c0 => ?_
  walk_at "q"
  refine sp__law_rich fun r0 => ?_
  walk_at "q"
  refine sp_lrange fun lo hi hr => ?_
  walk_at "q"
  refine sp__law_cell_2 (k := 1) fun c1 => ?_
  walk_at "q"
  refine sp_lfilled hl hr (by unfold epB; rw [decide_eq_true (by omega), decide_eq_true (by omega)]; rfl) fun μ a h g F e1 e2 e3 => ?_
  subst e1 e2
  rw [← e3]
  clear e3
  have f1 := F.len
  have f2 := F.slen
  have gs : μ a.s = some (.ins "Shard" [("low", .str h.lo), ("high", oS h.hi), ("epoch", .int h.ep), ("_items", .ref a.i), ("_sessions", .ref a.e)]) := g.s
  walk_at "q"
  refine sp_ShContent g (by omega) (by omega) ?_
  unfold conW
  walk_at "q"
  refine q_jn (fun ρ' μ2 => μ2 = μ ∧ ∃ ws, Pts h ws ∧ ρ' = [some (.rol (ns.map W.int)), some (.int h.ep), some (.ref a.s), some (.lst ws), none, none, none, none, some (.str h.lo), some (oS h.hi), some (.tup (conI h.it)), some (.tup (rowsS h.ss)), none, none, none]) (fun K hK => ?_) ?_
  · have lo8 := bnd_len (rng_low F.r)
    have pts0 : Pts h [.str h.lo, oS h.hi, .int h.ep, .tup (conI h.it), .tup (rowsS h.ss)] := by
      refine pts _ _ _ _ _ ⟨dp_strL (by omega), rfl⟩ ⟨oS_dp fun y hy => ?_, oS_DD _ _⟩ ⟨rfl, rfl⟩ (F.gP (by omega) (fun x hx => hx) (by rw [con_len]; omega)) (F.gR (by omega) (fun x hx => hx) (by rw [rows_len]; omega))
      have := F.r
      rw [hy] at this
      have := (rng_lt this).2
      exact bnd_len (by rw [this]; rfl)
    walk_at "q"
    refine sp__law_cell_2 (k := 2) fun c2 => ?_
    walk_at "q"
    refine q_ifP (fun c => ?_) fun c => ?_
    · walk_at "q"
      refine sp__law_cell_2 (k := 2) fun c2 => ?_
      walk_at "q"
      refine sp__law_rich fun r2 => ?_
      walk_at "q"
      refine sp_lspoilt F (by omega) fun ws hw => ?_
      walk_at "q"
      exact hK _ _ ⟨rfl, ws, hw, rfl⟩
    · walk_at "q"
      exact hK _ _ ⟨rfl, _, pts0, rfl⟩
  rintro ρ' μ2 ⟨rfl, ws, ⟨p0, p1, p2, p3, p4, rfl, d0, d1, d2, D0, D1, D2, g3, g4⟩, rfl⟩
  walk_at "q"
  refine sp_lright F (by omega) (dp_pl d0) (dp_pl d1) (dp_pl d2) g3 g4 (fun no => ?_) (fun lo hi ep q0 q1 q2 hr2 he2 no => ?_) fun lo hi ep l m q0 q1 q2 hr2 he2 q3 q4 hl2 hm2 ch1 ch2 => ?_
  · walk_at "q"
    refine sp_lmNo (dp_pl d0) (dp_pl d1) (dp_pl d2) no ?_
    walk_at "q"
    refine sp_lmNo (dp_pl d0) (dp_pl d1) (dp_pl d2) no ?_
    walk_at "q"
    exact Rt.now (hP _)
  · subst q0 q1 q2
    walk_at "q"
    refine sp_lmPlain hr2 he2 fun b μ3 nw => ?_
    have gb := nw.a
    have hbs : μ3 b.s = some (.ins "Shard" [("low", .str lo), ("high", oS hi), ("epoch", .int ep), ("_items", .ref b.i), ("_sessions", .ref b.e)]) := gb.s
    walk_at "q"
    refine q_f rfl ?_
    walk_at "q"
    refine sp_ShContent gb (by show 0 < 1000000; omega) (by show 0 < 64; omega) ?_
    rw [con0]
    walk_at "q"
    refine wNeq_same (n := 5) (w := .tup [.tup [], .tup []]) rfl (by omega) ?_
    walk_at "q"
    refine sp_lmNo2 hr2 he2 g3.dp g4.dp no ?_
    walk_at "q"
    exact Rt.now (hP _)
  subst q0 q1 q2 q3 q4
  walk_at "q"
  refine sp_lmPlain hr2 he2 fun b0 μ3 nw0 => ?_
  have gb0 := nw0.a
  have hbs0 : μ3 b0.s = some (.ins "Shard" [("low", .str lo), ("high", oS hi), ("epoch", .int ep), ("_items", .ref b0.i), ("_sessions", .ref b0.e)]) := gb0.s
  walk_at "q"
  refine q_f rfl ?_
  walk_at "q"
  refine sp_ShContent gb0 (by show 0 < 1000000; omega) (by show 0 < 64; omega) ?_
  rw [con0]
  walk_at "q"
  refine wNeq_same (n := 5) (w := .tup [.tup [], .tup []]) rfl (by omega) ?_
  have ip := whole_in (lo := lo) (hi := hi) (fun x hx => F.pOk x (hl2 x hx).1) (fun x hx => (hl2 x hx).2) ch1
  have ir := whole_rows (fun x hx => F.rOk (by omega) x (hm2 x hx)) ch2
  have O := F.sub_okh (by omega) (ep := ep) hr2 hl2 hm2 ch1 ch2
  have O1 := O.len
  have O2 := O.slen
  walk_at "q"
  refine sp_lmWhole O (by omega) he2 g3.dp g4.dp ip ir fun b μ4 nw => ?_
  have gb := nw.a
  have hbs : μ4 b.s = some (.ins "Shard" [("low", .str lo), ("high", oS hi), ("epoch", .int ep), ("_items", .ref b.i), ("_sessions", .ref b.e)]) := gb.s
  walk_at "q"
  refine sp_ShContent gb (by show l.length < 1000000; have : l.length ≤ 20 := O1; omega) (by show m.length < 64; have : m.length ≤ 20 := O2; omega) ?_
  have ec : conW ⟨lo, hi, ep, l, m⟩ = .tup [.tup (l.map prW), .tup (m.map rwW)] := by
    unfold conW
    rw [(rise_it ch1).2, (rise_ss ch2).2]
  have cd := O.conD
  rw [ec] at cd ⊢
  walk_at "q"
  refine wNeq_same (n := 58) cd (by omega) ?_
  walk_at "q"
  rw [cut3]
  have D3 : ∀ (lo : Str) (hi : Option Str) (ep : Int), isD 59 (.lst [.str lo, oS hi, .int ep]) = true := fun lo hi ep => by
    show (true && (isD 58 (oS hi) && (true && true))) = true
    rw [oS_DD]
    rfl
  refine wNeq_same (n := 59) (D3 _ _ _) (by omega) ?_
  walk_at "q"
  refine sp_lmWhole O (by omega) he2 g3.dp g4.dp ip ir fun b2 μ5 nw2 => ?_
  have ga4 := (g.ext nw0.x).ext nw.x
  have far1 := ShNew.far (g.ext nw0.x) nw
  have far2 := ShNew.far ga4 nw2
  have far3 := ShNew.far gb nw2
  have ga5 := ga4.ext nw2.x
  have gb5 := gb.ext nw2.x
  have gc5 := nw2.a
  obtain ⟨f, hf, hg⟩ := gv_ops ns
  have cd0 : isD 58 (.tup [.tup (conI h.it), .tup (rowsS h.ss)]) = true := F.okh.conD
  have gv := fun e1 e2 => same_of F (lo := lo) (hi := hi) (ep := ep) (l := l) hm2 e1 e2
  clear ga4 gb gb0 hbs hbs0 gs g nw nw0 nw2 g3 g4 ip ir d0 d1 d2 D0 D1 D2 ec
  walk_at "q"
  have cnt : (min 10 (((List.map W.int ns).length : Nat) : Int)).toNat ≤ 10 := by omega
  have cnt2 : (min 10 (((List.map W.int ns).length : Nat) : Int)).toNat ≤ ns.length := by
    rw [List.length_map]
    omega
  revert cnt cnt2
  generalize hN : (min 10 (((List.map W.int ns).length : Nat) : Int)).toNat = N
  intro cnt cnt2
  generalize hhb : (⟨lo, hi, ep, l, m⟩ : Sh) = hb at *
  have hlo : hb.lo = lo ∧ hb.hi = hi ∧ hb.ep = ep := by subst hhb; exact ⟨rfl, rfl, rfl⟩
  clear hhb
  refine itS_nums (fun k ρ μ' => ShAt μ' b (runS f hb k) ∧ ShAt μ' b2 (runS f hb k) ∧ ShAt μ' a h ∧ ∃ x7 x14 : Option W, ρ = [some (.rol (ns.map W.int)), some (.int h.ep), some (.ref a.s), some (.lst [.str lo, oS hi, .int ep, .tup (l.map prW), .tup (m.map rwW)]), some (.ref b0.s), some (.ref b.s), some (.ref b2.s), x7, some (.str h.lo), some (oS h.hi), some (.tup (conI h.it)), some (.tup (rowsS h.ss)), some (.bl true), some (.bl true), x14]) ⟨gb5, gc5, ga5, none, none, rfl⟩ (by intros; trivial) ?_ ?_
  · rintro k hk ρ μ' ⟨q1, q2, q3, x7, x14, rfl⟩ K hK
    have hk2 : k < ns.length := by omega
    have p1 : pick (ns.map W.int) (0 + (k : Int)) = some (.int ns[k]) := by
      rw [Int.zero_add]
      exact pick_mapN (List.getElem?_eq_getElem hk2)
    obtain ⟨r, gr, go⟩ := hg k hk2
    obtain ⟨l1, l2, l3⟩ := run_lo f hb k
    have Ok := run_ok hf O k
    have s1 : μ' b.s = some (.ins "Shard" [("low", .str (runS f hb k).lo), ("high", oS (runS f hb k).hi), ("epoch", .int (runS f hb k).ep), ("_items", .ref b.i), ("_sessions", .ref b.e)]) := q1.s
    obtain ⟨kd, rs, ew⟩ := op_shp (f k)
    walk_at "q"
    rw [Int.zero_add]
    refine gr _ _ _ ?_
    refine go _ _ _ ?_
    rw [ew]
    walk_at "q"
    refine sp_ShHas q1 ?_
    cases ch : hasK (runS f hb k).lo (runS f hb k).hi (f k).place with
    | false =>
      walk_at "q"
      have er : runS f hb (k + 1) = runS f hb k := by
        show (if hasK hb.lo hb.hi (f k).place = true then _ else _) = _
        rw [l1, l2] at ch
        rw [if_neg (by rw [ch]; simp)]
      refine hK _ _ ⟨by rw [er]; exact q1, by rw [er]; exact q2, q3, _, _, rfl⟩
    | true =>
      have er : runS f hb (k + 1) = stepS (runS f hb k) (-2) (90 + (k : Int) / 2) (f k) := by
        show (if hasK hb.lo hb.hi (f k).place = true then _ else _) = _
        rw [l1, l2] at ch
        rw [if_pos ch]
      have rd := Ok.resD (hf k) (-2) (90 + (k : Int) / 2)
      walk_at "q"
      rw [← ew]
      refine sp_step q1 Ok (by omega) (hf k) ch fun μ6 g6 fr6 => ?_
      have q2' := q2.frame q1 (far_sym far3) fr6
      have q3' := q3.frame q1 far1 fr6
      have s2 : μ6 b2.s = some (.ins "Shard" [("low", .str (runS f hb k).lo), ("high", oS (runS f hb k).hi), ("epoch", .int (runS f hb k).ep), ("_items", .ref b2.i), ("_sessions", .ref b2.e)]) := q2'.s
      clear q1 q2 q3 s1
      walk_at "q"
      refine sp_step q2' Ok (by omega) (hf k) ch fun μ7 g7 fr7 => ?_
      have q1'' := g6.frame q2' far3 fr7
      have q3'' := q3'.frame q2' far2 fr7
      walk_at "q"
      refine wNeq_same (n := 58) rd (by omega) ?_
      walk_at "q"
      refine hK _ _ ⟨by rw [er]; exact q1'', by rw [er]; exact g7, q3'', _, _, rfl⟩
  · rintro ρ μ6 ⟨q1, q2, q3, x7, x14, rfl⟩
    walk_at "q"
    rw [cut3]
    refine wNeq_gen (isD_mono (n := 59) (by omega) (D3 _ _ _)) (isD_mono (n := 59) (by omega) (D3 _ _ _)) ?_
    cases v1 : eqW (.lst [.str lo, oS hi, .int ep]) (.lst [.str h.lo, oS h.hi, .int h.ep]) with
    | false =>
      walk_at "q"
      exact Rt.now (hP _)
    | true =>
      walk_at "q"
      refine wNeq_gen (isD_mono (n := 58) (by omega) cd) (isD_mono (n := 58) (by omega) cd0) ?_
      cases v2 : eqW (.tup [.tup (l.map prW), .tup (m.map rwW)]) (.tup [.tup (conI h.it), .tup (rowsS h.ss)]) with
      | false =>
        walk_at "q"
        exact Rt.now (hP _)
      | true =>
        have S := gv v1 v2
        clear q2 v1 v2 cd cd0 D3 gv hl2 hm2 ch1 ch2 hr2 he2 hr O1 O2 gb5 gc5 ga5
        walk_at "q"
        have eN : (min 10 (((List.map W.int ns).length : Nat) : Int)).toNat = N := hN
        rw [eN]
        refine itS_nums (fun k ρ μ' => ShAt μ' a (runS f h k) ∧ ShAt μ' b (runS f hb N) ∧ ∃ x7 x14 : Option W, ρ = [some (.rol (ns.map W.int)), some (.int h.ep), some (.ref a.s), some (.lst [.str lo, oS hi, .int ep, .tup (l.map prW), .tup (m.map rwW)]), some (.ref b0.s), some (.ref b.s), some (.ref b2.s), x7, some (.str h.lo), some (oS h.hi), some (.tup (conI h.it)), some (.tup (rowsS h.ss)), some (.bl true), some (.bl true), x14]) ⟨q3, q1, _, _, rfl⟩ (by intros; trivial) ?_ ?_
        · rintro k hk ρ μ' ⟨q1, q2, x7, x14, rfl⟩ K hK
          have hk2 : k < ns.length := by omega
          have p1 : pick (ns.map W.int) (0 + (k : Int)) = some (.int ns[k]) := by
            rw [Int.zero_add]
            exact pick_mapN (List.getElem?_eq_getElem hk2)
          obtain ⟨r, gr, go⟩ := hg k hk2
          obtain ⟨l1, l2, l3⟩ := run_lo f h k
          have Ok := run_ok hf F.okh k
          have s1 : μ' a.s = some (.ins "Shard" [("low", .str (runS f h k).lo), ("high", oS (runS f h k).hi), ("epoch", .int (runS f h k).ep), ("_items", .ref a.i), ("_sessions", .ref a.e)]) := q1.s
          obtain ⟨kd, rs, ew⟩ := op_shp (f k)
          walk_at "q"
          rw [Int.zero_add]
          refine gr _ _ _ ?_
          refine go _ _ _ ?_
          rw [ew]
          walk_at "q"
          refine sp_ShHas q1 ?_
          cases ch : hasK (runS f h k).lo (runS f h k).hi (f k).place with
          | false =>
            walk_at "q"
            have er : runS f h (k + 1) = runS f h k := by
              show (if hasK h.lo h.hi (f k).place = true then _ else _) = _
              rw [l1, l2] at ch
              rw [if_neg (by rw [ch]; simp)]
            exact hK _ _ ⟨by rw [er]; exact q1, q2, _, _, rfl⟩
          | true =>
            have er : runS f h (k + 1) = stepS (runS f h k) (-2) (90 + (k : Int) / 2) (f k) := by
              show (if hasK h.lo h.hi (f k).place = true then _ else _) = _
              rw [l1, l2] at ch
              rw [if_pos ch]
            walk_at "q"
            rw [← ew]
            refine sp_step q1 Ok (by omega) (hf k) ch fun μ7 g7 fr7 => ?_
            have q2' := q2.frame q1 (far_sym far1) fr7
            clear q1 q2 s1
            walk_at "q"
            exact hK _ _ ⟨by rw [er]; exact g7, q2', _, _, rfl⟩
        · rintro ρ μ7 ⟨q1, q2, x7, x14, rfl⟩
          have Oa := run_ok hf F.okh N
          have Ob := run_ok hf O N
          have ec : conW (runS f hb N) = conW (runS f h N) := (run_same hf S O F.okh N).con Ob.nd Oa.nd Ob.nds Oa.nds
          have s1 : μ7 a.s = some (.ins "Shard" [("low", .str (runS f h N).lo), ("high", oS (runS f h N).hi), ("epoch", .int (runS f h N).ep), ("_items", .ref a.i), ("_sessions", .ref a.e)]) := q1.s
          have s2 : μ7 b.s = some (.ins "Shard" [("low", .str (runS f hb N).lo), ("high", oS (runS f hb N).hi), ("epoch", .int (runS f hb N).ep), ("_items", .ref b.i), ("_sessions", .ref b.e)]) := q2.s
          have z1 := Oa.len
          have z2 := Oa.slen
          have z3 := Ob.len
          have z4 := Ob.slen
          have cdN := Oa.conD
          walk_at "q"
          refine sp_ShContent q1 (by omega) (by omega) ?_
          walk_at "q"
          refine sp_ShContent q2 (by omega) (by omega) ?_
          rw [ec]
          refine wEqu_same (n := 58) cdN (by omega) ?_
          exact Rt.now (hP _)
end Q
namespace K26
open PySem PySem.Spec PyProof.Rows L2 Evl Q
/-! ### the head -/
theorem facts {P : Program} {w : World} {K : Frag} {h : Heap} {mg : Str → Option Value} {f : Addr} (X : K.In h) (G : h.Ns mainGlobals mg) (hfa : mg ("law" : Str) = some (.ref f)) (y : He.SaysX fa fn ts [] ex w h K) :
    ∃ fd : FuncData, (∀ (s : Shared) (v : Value), BindsTo s fd ⟨[v], []⟩ [("script", v)]) ∧ ∀ base : Heap, K.In base → base.Ns mainGlobals mg → FnOk P w K mg base CX0 11 f fd ["script"] (spL K f_law_13) := by
  have c := y.t.d
  obtain ⟨fd__wall, F__wall⟩ := c.def_ 0 (d := d__wall) rfl
  obtain ⟨fd_is_key, F_is_key⟩ := c.def_ 1 (d := d_is_key) rfl
  obtain ⟨fd_is_bound, F_is_bound⟩ := c.def_ 2 (d := d_is_bound) rfl
  obtain ⟨fd_is_range, F_is_range⟩ := c.def_ 3 (d := d_is_range) rfl
  obtain ⟨fd_below, F_below⟩ := c.def_ 4 (d := d_below) rfl
  obtain ⟨fd_contains, F_contains⟩ := c.def_ 5 (d := d_contains) rfl
  obtain ⟨fd_is_printable, F_is_printable⟩ := c.def_ 6 (d := d_is_printable) rfl
  obtain ⟨fd_is_integer, F_is_integer⟩ := c.def_ 7 (d := d_is_integer) rfl
  obtain ⟨fd_kind_of, F_kind_of⟩ := c.def_ 8 (d := d_kind_of) rfl
  obtain ⟨fd_is_value, F_is_value⟩ := c.def_ 9 (d := d_is_value) rfl
  obtain ⟨fd__is_pair, F__is_pair⟩ := c.def_ 10 (d := d__is_pair) rfl
  obtain ⟨fd_are_pairs, F_are_pairs⟩ := c.def_ 11 (d := d_are_pairs) rfl
  obtain ⟨fd__is_key_alone, F__is_key_alone⟩ := c.def_ 12 (d := d__is_key_alone) rfl
  obtain ⟨fd__is_put, F__is_put⟩ := c.def_ 13 (d := d__is_put) rfl
  obtain ⟨fd__is_swap, F__is_swap⟩ := c.def_ 14 (d := d__is_swap) rfl
  obtain ⟨fd__is_page, F__is_page⟩ := c.def_ 15 (d := d__is_page) rfl
  obtain ⟨fd_is_operation, F_is_operation⟩ := c.def_ 16 (d := d_is_operation) rfl
  obtain ⟨fd_place, F_place⟩ := c.def_ 17 (d := d_place) rfl
  obtain ⟨fd_is_within, F_is_within⟩ := c.def_ 18 (d := d_is_within) rfl
  obtain ⟨fd__get, F__get⟩ := c.def_ 19 (d := d__get) rfl
  obtain ⟨fd__put, F__put⟩ := c.def_ 20 (d := d__put) rfl
  obtain ⟨fd__drop, F__drop⟩ := c.def_ 21 (d := d__drop) rfl
  obtain ⟨fd__swap, F__swap⟩ := c.def_ 22 (d := d__swap) rfl
  obtain ⟨fd__page, F__page⟩ := c.def_ 23 (d := d__page) rfl
  obtain ⟨fd_apply, F_apply⟩ := c.def_ 24 (d := d_apply) rfl
  obtain ⟨fd__is_word_alone, F__is_word_alone⟩ := c.def_ 25 (d := d__is_word_alone) rfl
  obtain ⟨fd__is_value_told, F__is_value_told⟩ := c.def_ 26 (d := d__is_value_told) rfl
  obtain ⟨fd__is_page_told, F__is_page_told⟩ := c.def_ 27 (d := d__is_page_told) rfl
  obtain ⟨fd_is_answer, F_is_answer⟩ := c.def_ 28 (d := d_is_answer) rfl
  obtain ⟨fd_is_client, F_is_client⟩ := c.def_ 29 (d := d_is_client) rfl
  obtain ⟨fd_is_pairs, F_is_pairs⟩ := c.def_ 30 (d := d_is_pairs) rfl
  obtain ⟨fd_is_number, F_is_number⟩ := c.def_ 31 (d := d_is_number) rfl
  obtain ⟨fd__is_row, F__is_row⟩ := c.def_ 32 (d := d__is_row) rfl
  obtain ⟨fd_is_rows, F_is_rows⟩ := c.def_ 33 (d := d_is_rows) rfl
  obtain ⟨fd_made, F_made⟩ := c.def_ 34 (d := d_made) rfl
  obtain ⟨fd__law_cell, F__law_cell⟩ := c.def_ 35 (d := d__law_cell) rfl
  obtain ⟨fd__law_rich, F__law_rich⟩ := c.def_ 36 (d := d__law_rich) rfl
  obtain ⟨fd__law_word, F__law_word⟩ := c.def_ 37 (d := d__law_word) rfl
  obtain ⟨fd__law_key, F__law_key⟩ := c.def_ 38 (d := d__law_key) rfl
  obtain ⟨fd__law_bound, F__law_bound⟩ := c.def_ 39 (d := d__law_bound) rfl
  obtain ⟨fd__law_value, F__law_value⟩ := c.def_ 40 (d := d__law_value) rfl
  obtain ⟨fd__law_range, F__law_range⟩ := c.def_ 41 (d := d__law_range) rfl
  obtain ⟨fd__law_operation, F__law_operation⟩ := c.def_ 42 (d := d__law_operation) rfl
  obtain ⟨fd__law_filled, F__law_filled⟩ := c.def_ 43 (d := d__law_filled) rfl
  obtain ⟨fd__law_spoilt, F__law_spoilt⟩ := c.def_ 44 (d := d__law_spoilt) rfl
  obtain ⟨fd__law_is_bound, F__law_is_bound⟩ := c.def_ 45 (d := d__law_is_bound) rfl
  obtain ⟨fd__law_rises, F__law_rises⟩ := c.def_ 46 (d := d__law_rises) rfl
  obtain ⟨fd__law_right, F__law_right⟩ := c.def_ 47 (d := d__law_right) rfl
  obtain ⟨fd__law_made, F__law_made⟩ := c.def_ 48 (d := d__law_made) rfl
  obtain ⟨fd_law, F_law⟩ := c.def_ 49 (d := d_law) rfl
  obtain ⟨fd_Sessions___init__, F_Sessions___init__⟩ := c.def_ 50 (d := d_Sessions___init__) rfl
  obtain ⟨fd_Sessions_status, F_Sessions_status⟩ := c.def_ 51 (d := d_Sessions_status) rfl
  obtain ⟨fd_Sessions_answer, F_Sessions_answer⟩ := c.def_ 52 (d := d_Sessions_answer) rfl
  obtain ⟨fd_Sessions_remember, F_Sessions_remember⟩ := c.def_ 53 (d := d_Sessions_remember) rfl
  obtain ⟨fd_Sessions_rows, F_Sessions_rows⟩ := c.def_ 54 (d := d_Sessions_rows) rfl
  obtain ⟨fd_Sessions_merged, F_Sessions_merged⟩ := c.def_ 55 (d := d_Sessions_merged) rfl
  obtain ⟨fd_Sessions_clone, F_Sessions_clone⟩ := c.def_ 56 (d := d_Sessions_clone) rfl
  obtain ⟨fd_Shard___init__, F_Shard___init__⟩ := c.def_ 57 (d := d_Shard___init__) rfl
  obtain ⟨fd_Shard_has, F_Shard_has⟩ := c.def_ 58 (d := d_Shard_has) rfl
  obtain ⟨fd_Shard_size, F_Shard_size⟩ := c.def_ 59 (d := d_Shard_size) rfl
  obtain ⟨fd_Shard_middle, F_Shard_middle⟩ := c.def_ 60 (d := d_Shard_middle) rfl
  obtain ⟨fd_Shard_status, F_Shard_status⟩ := c.def_ 61 (d := d_Shard_status) rfl
  obtain ⟨fd_Shard_answer, F_Shard_answer⟩ := c.def_ 62 (d := d_Shard_answer) rfl
  obtain ⟨fd_Shard_serve, F_Shard_serve⟩ := c.def_ 63 (d := d_Shard_serve) rfl
  obtain ⟨fd_Shard_split, F_Shard_split⟩ := c.def_ 64 (d := d_Shard_split) rfl
  obtain ⟨fd_Shard_join, F_Shard_join⟩ := c.def_ 65 (d := d_Shard_join) rfl
  obtain ⟨fd_Shard_content, F_Shard_content⟩ := c.def_ 66 (d := d_Shard_content) rfl
  obtain ⟨fd_Shard_clone, F_Shard_clone⟩ := c.def_ 67 (d := d_Shard_clone) rfl
  have g__wall := He.glo_ok X G (c.fact 0 (f := .glo "_wall") rfl)
  have g_is_key := He.glo_ok X G (c.fact 1 (f := .glo "is_key") rfl)
  have g_is_bound := He.glo_ok X G (c.fact 2 (f := .glo "is_bound") rfl)
  have g_is_range := He.glo_ok X G (c.fact 3 (f := .glo "is_range") rfl)
  have g_below := He.glo_ok X G (c.fact 4 (f := .glo "below") rfl)
  have g_contains := He.glo_ok X G (c.fact 5 (f := .glo "contains") rfl)
  have g_is_printable := He.glo_ok X G (c.fact 6 (f := .glo "is_printable") rfl)
  have g_is_integer := He.glo_ok X G (c.fact 7 (f := .glo "is_integer") rfl)
  have g_kind_of := He.glo_ok X G (c.fact 8 (f := .glo "kind_of") rfl)
  have g_is_value := He.glo_ok X G (c.fact 9 (f := .glo "is_value") rfl)
  have g__is_pair := He.glo_ok X G (c.fact 10 (f := .glo "_is_pair") rfl)
  have g_are_pairs := He.glo_ok X G (c.fact 11 (f := .glo "are_pairs") rfl)
  have g__is_key_alone := He.glo_ok X G (c.fact 12 (f := .glo "_is_key_alone") rfl)
  have g__is_put := He.glo_ok X G (c.fact 13 (f := .glo "_is_put") rfl)
  have g__is_swap := He.glo_ok X G (c.fact 14 (f := .glo "_is_swap") rfl)
  have g__is_page := He.glo_ok X G (c.fact 15 (f := .glo "_is_page") rfl)
  have g_is_operation := He.glo_ok X G (c.fact 16 (f := .glo "is_operation") rfl)
  have g_place := He.glo_ok X G (c.fact 17 (f := .glo "place") rfl)
  have g_is_within := He.glo_ok X G (c.fact 18 (f := .glo "is_within") rfl)
  have g__get := He.glo_ok X G (c.fact 19 (f := .glo "_get") rfl)
  have g__put := He.glo_ok X G (c.fact 20 (f := .glo "_put") rfl)
  have g__drop := He.glo_ok X G (c.fact 21 (f := .glo "_drop") rfl)
  have g__swap := He.glo_ok X G (c.fact 22 (f := .glo "_swap") rfl)
  have g__page := He.glo_ok X G (c.fact 23 (f := .glo "_page") rfl)
  have g_apply := He.glo_ok X G (c.fact 24 (f := .glo "apply") rfl)
  have g__is_word_alone := He.glo_ok X G (c.fact 25 (f := .glo "_is_word_alone") rfl)
  have g__is_value_told := He.glo_ok X G (c.fact 26 (f := .glo "_is_value_told") rfl)
  have g__is_page_told := He.glo_ok X G (c.fact 27 (f := .glo "_is_page_told") rfl)
  have g_is_answer := He.glo_ok X G (c.fact 28 (f := .glo "is_answer") rfl)
  have g_is_client := He.glo_ok X G (c.fact 29 (f := .glo "is_client") rfl)
  have g_is_pairs := He.glo_ok X G (c.fact 30 (f := .glo "is_pairs") rfl)
  have g_is_number := He.glo_ok X G (c.fact 31 (f := .glo "is_number") rfl)
  have g__is_row := He.glo_ok X G (c.fact 32 (f := .glo "_is_row") rfl)
  have g_is_rows := He.glo_ok X G (c.fact 33 (f := .glo "is_rows") rfl)
  have g_made := He.glo_ok X G (c.fact 34 (f := .glo "made") rfl)
  have g__law_cell := He.glo_ok X G (c.fact 35 (f := .glo "_law_cell") rfl)
  have g__law_rich := He.glo_ok X G (c.fact 36 (f := .glo "_law_rich") rfl)
  have g__law_word := He.glo_ok X G (c.fact 37 (f := .glo "_law_word") rfl)
  have g__law_key := He.glo_ok X G (c.fact 38 (f := .glo "_law_key") rfl)
  have g__law_bound := He.glo_ok X G (c.fact 39 (f := .glo "_law_bound") rfl)
  have g__law_value := He.glo_ok X G (c.fact 40 (f := .glo "_law_value") rfl)
  have g__law_range := He.glo_ok X G (c.fact 41 (f := .glo "_law_range") rfl)
  have g__law_operation := He.glo_ok X G (c.fact 42 (f := .glo "_law_operation") rfl)
  have g__law_filled := He.glo_ok X G (c.fact 43 (f := .glo "_law_filled") rfl)
  have g__law_spoilt := He.glo_ok X G (c.fact 44 (f := .glo "_law_spoilt") rfl)
  have g__law_is_bound := He.glo_ok X G (c.fact 45 (f := .glo "_law_is_bound") rfl)
  have g__law_rises := He.glo_ok X G (c.fact 46 (f := .glo "_law_rises") rfl)
  have g__law_right := He.glo_ok X G (c.fact 47 (f := .glo "_law_right") rfl)
  have g__law_made := He.glo_ok X G (c.fact 48 (f := .glo "_law_made") rfl)
  have g_law := He.glo_ok X G (c.fact 49 (f := .glo "law") rfl)
  have g_NONE := He.glo_ok X G (c.fact 50 (f := .glo "NONE") rfl)
  have g_DONE := He.glo_ok X G (c.fact 51 (f := .glo "DONE") rfl)
  have g_OPERATIONS := He.glo_ok X G (c.fact 52 (f := .glo "OPERATIONS") rfl)
  have g_ACTIONS := He.glo_ok X G (c.fact 53 (f := .glo "ACTIONS") rfl)
  have g_ANSWERS := He.glo_ok X G (c.fact 54 (f := .glo "ANSWERS") rfl)
  have g_Sessions := He.glo_ok X G (c.fact 55 (f := .glo "Sessions") rfl)
  have g_Shard := He.glo_ok X G (c.fact 56 (f := .glo "Shard") rfl)
  have g_TableError := He.glo_ok X G (c.fact 57 (f := .glo "TableError") rfl)
  have g_BadOperation := He.glo_ok X G (c.fact 58 (f := .glo "BadOperation") rfl)
  have g_BadShard := He.glo_ok X G (c.fact 59 (f := .glo "BadShard") rfl)
  have z_len := He.free_ok X G (c.fact 60 (f := .free "len") rfl)
  have z_isinstance := He.free_ok X G (c.fact 61 (f := .free "isinstance") rfl)
  have z_str := He.free_ok X G (c.fact 62 (f := .free "str") rfl)
  have z_ord := He.free_ok X G (c.fact 63 (f := .free "ord") rfl)
  have z_bool := He.free_ok X G (c.fact 64 (f := .free "bool") rfl)
  have z_int := He.free_ok X G (c.fact 65 (f := .free "int") rfl)
  have z_tuple := He.free_ok X G (c.fact 66 (f := .free "tuple") rfl)
  have z_sorted := He.free_ok X G (c.fact 67 (f := .free "sorted") rfl)
  have z_range := He.free_ok X G (c.fact 68 (f := .free "range") rfl)
  have z_max := He.free_ok X G (c.fact 69 (f := .free "max") rfl)
  have z_min := He.free_ok X G (c.fact 70 (f := .free "min") rfl)
  have z_list := He.free_ok X G (c.fact 71 (f := .free "list") rfl)
  have z_all := He.free_ok X G (c.fact 72 (f := .free "all") rfl)
  have c_MOST_KEY := He.int_ok X G (c.fact 73 (f := .int "MOST_KEY" 8) rfl)
  have c_BARRED := He.int_ok X G (c.fact 74 (f := .int "BARRED" 37) rfl)
  have c_MOST_VALUE := He.int_ok X G (c.fact 75 (f := .int "MOST_VALUE" 40) rfl)
  have c_MOST_PAGE := He.int_ok X G (c.fact 76 (f := .int "MOST_PAGE" 50) rfl)
  have c_MOST_CLIENTS := He.int_ok X G (c.fact 77 (f := .int "MOST_CLIENTS" 100) rfl)
  have c_MOST_NUMBER := He.int_ok X G (c.fact 78 (f := .int "MOST_NUMBER" 1000000000000) rfl)
  have mo : ex K = true := y.more
  obtain ⟨mo, w_ANSWERS⟩ := Bool.and_eq_true_iff.mp mo
  have t_ANSWERS : TabQ K w mg "ANSWERS" _ := tabq_of g_ANSWERS (says_dic y.t 2) w_ANSWERS
  obtain ⟨mo, w_ACTIONS⟩ := Bool.and_eq_true_iff.mp mo
  have t_ACTIONS : TabQ K w mg "ACTIONS" _ := tabq_of g_ACTIONS (says_dic y.t 1) w_ACTIONS
  obtain ⟨mo, w_OPERATIONS⟩ := Bool.and_eq_true_iff.mp mo
  have t_OPERATIONS : TabQ K w mg "OPERATIONS" _ := tabq_of g_OPERATIONS (says_dic y.t 0) w_OPERATIONS
  obtain ⟨mo, w_DONE⟩ := Bool.and_eq_true_iff.mp mo
  have u_DONE : TupQ K mg "DONE" _ := tup_of g_DONE w_DONE
  obtain ⟨mo, w_NONE⟩ := Bool.and_eq_true_iff.mp mo
  have u_NONE : TupQ K mg "NONE" _ := tup_of g_NONE w_NONE
  have x_BadOperation : ExcQ K mg "BadOperation" := exq_of g_BadOperation (c.fact 79 (f := .exc "BadOperation") rfl)
  have x_BadShard : ExcQ K mg "BadShard" := exq_of g_BadShard (c.fact 80 (f := .exc "BadShard") rfl)
  have em_BadShard : ExmQ K ["TableError", "BadOperation", "BadShard"] (.ref (He.ga K "BadShard")) ["BadShard"] := fun x hx => by
    simp only [List.mem_cons, List.not_mem_nil, or_false] at hx
    rcases hx with rfl | rfl | rfl
    · exact He.exm_ok (c.fact 81 (f := .exm "TableError" "BadShard" false) rfl)
    · exact He.exm_ok (c.fact 82 (f := .exm "BadOperation" "BadShard" false) rfl)
    · exact He.exm_ok (c.fact 83 (f := .exm "BadShard" "BadShard" true) rfl)
  have e := hfa.symm.trans g_law
  cases e
  have b := L2.FunD.bindsA (ps := ["script"]) F_law fun _ _ _ _ _ _ us hl => match us, hl with | [_], _ => rfl
  refine ⟨fd_law, fun s v => b s [v] rfl, fun base _ _ => ?_⟩
  have l_Sessions := He.cls_ok (c.fact 84 (f := .cls "Sessions") rfl)
  have l_Shard := He.cls_ok (c.fact 85 (f := .cls "Shard") rfl)
  have n_Sessions__last := He.noat_ok (c.fact 86 (f := .noat "Sessions" "_last") rfl)
  have n_Shard_low := He.noat_ok (c.fact 87 (f := .noat "Shard" "low") rfl)
  have n_Shard_high := He.noat_ok (c.fact 88 (f := .noat "Shard" "high") rfl)
  have n_Shard_epoch := He.noat_ok (c.fact 89 (f := .noat "Shard" "epoch") rfl)
  have n_Shard__items := He.noat_ok (c.fact 90 (f := .noat "Shard" "_items") rfl)
  have n_Shard__sessions := He.noat_ok (c.fact 91 (f := .noat "Shard" "_sessions") rfl)
  have D__wall : DefQ P w K mg base _ _ _ _ := dq_mk (st := s__wall) F__wall g__wall (F__wall.bindsN fun _ _ _ _ _ _ us hl => match us, hl with | [_], _ => rfl) (ok__wall F__wall )
  have D_is_key : DefQ P w K mg base _ _ _ _ := dq_mk (st := s_is_key) F_is_key g_is_key (F_is_key.bindsN fun _ _ _ _ _ _ us hl => match us, hl with | [_], _ => rfl) (ok_is_key F_is_key z_len c_MOST_KEY z_isinstance z_str)
  have D_is_bound : DefQ P w K mg base _ _ _ _ := dq_mk (st := s_is_bound) F_is_bound g_is_bound (F_is_bound.bindsN fun _ _ _ _ _ _ us hl => match us, hl with | [_], _ => rfl) (ok_is_bound F_is_bound z_isinstance z_str D_is_key)
  have D_is_range : DefQ P w K mg base _ _ _ _ := dq_mk (st := s_is_range) F_is_range g_is_range (F_is_range.bindsN fun _ _ _ _ _ _ us hl => match us, hl with | [_, _], _ => rfl) (ok_is_range F_is_range D_is_bound D_is_key)
  have D_below : DefQ P w K mg base _ _ _ _ := dq_mk (st := s_below) F_below g_below (F_below.bindsN fun _ _ _ _ _ _ us hl => match us, hl with | [_, _], _ => rfl) (ok_below F_below )
  have D_contains : DefQ P w K mg base _ _ _ _ := dq_mk (st := s_contains) F_contains g_contains (F_contains.bindsN fun _ _ _ _ _ _ us hl => match us, hl with | [_, _, _], _ => rfl) (ok_contains F_contains D_below)
  have D_is_printable : DefQ P w K mg base _ _ _ _ := dq_mk (st := s_is_printable) F_is_printable g_is_printable (F_is_printable.bindsN fun _ _ _ _ _ _ us hl => match us, hl with | [_], _ => rfl) (ok_is_printable F_is_printable z_isinstance z_str z_ord c_BARRED)
  have D_is_integer : DefQ P w K mg base _ _ _ _ := dq_mk (st := s_is_integer) F_is_integer g_is_integer (F_is_integer.bindsN fun _ _ _ _ _ _ us hl => match us, hl with | [_, _, _], _ => rfl) (ok_is_integer F_is_integer z_isinstance z_bool z_int)
  have D_kind_of : DefQ P w K mg base _ _ _ _ := dq_mk (st := s_kind_of) F_kind_of g_kind_of (F_kind_of.bindsN fun _ _ _ _ _ _ us hl => match us, hl with | [_], _ => rfl) (ok_kind_of F_kind_of z_isinstance z_str z_len z_tuple)
  have D_is_value : DefQ P w K mg base _ _ _ _ := dq_mk (st := s_is_value) F_is_value g_is_value (F_is_value.bindsN fun _ _ _ _ _ _ us hl => match us, hl with | [_], _ => rfl) (ok_is_value F_is_value z_len c_MOST_VALUE D_is_printable)
  have D__is_pair : DefQ P w K mg base _ _ _ _ := dq_mk (st := s__is_pair) F__is_pair g__is_pair (F__is_pair.bindsN fun _ _ _ _ _ _ us hl => match us, hl with | [_], _ => rfl) (ok__is_pair F__is_pair D_is_value D_is_key z_len z_isinstance z_tuple)
  have D_are_pairs : DefQ P w K mg base _ _ _ _ := dq_mk (st := s_are_pairs) F_are_pairs g_are_pairs (F_are_pairs.bindsN fun _ _ _ _ _ _ us hl => match us, hl with | [_], _ => rfl) (ok_are_pairs F_are_pairs z_isinstance z_tuple D__is_pair)
  have D__is_key_alone : DefQ P w K mg base _ _ _ _ := dq_mk (st := s__is_key_alone) F__is_key_alone g__is_key_alone (F__is_key_alone.bindsN fun _ _ _ _ _ _ us hl => match us, hl with | [_], _ => rfl) (ok__is_key_alone F__is_key_alone D_is_key z_len)
  have D__is_put : DefQ P w K mg base _ _ _ _ := dq_mk (st := s__is_put) F__is_put g__is_put (F__is_put.bindsN fun _ _ _ _ _ _ us hl => match us, hl with | [_], _ => rfl) (ok__is_put F__is_put D_is_value D_is_key z_len)
  have D__is_swap : DefQ P w K mg base _ _ _ _ := dq_mk (st := s__is_swap) F__is_swap g__is_swap (F__is_swap.bindsN fun _ _ _ _ _ _ us hl => match us, hl with | [_], _ => rfl) (ok__is_swap F__is_swap D_is_value D_is_key z_len)
  have D__is_page : DefQ P w K mg base _ _ _ _ := dq_mk (st := s__is_page) F__is_page g__is_page (F__is_page.bindsN fun _ _ _ _ _ _ us hl => match us, hl with | [_], _ => rfl) (ok__is_page F__is_page c_MOST_PAGE D_is_integer D_is_bound z_len)
  have D_is_operation : DefQ P w K mg base _ _ _ _ := dq_mk (st := s_is_operation) F_is_operation g_is_operation (F_is_operation.bindsN fun _ _ _ _ _ _ us hl => match us, hl with | [_], _ => rfl) (ok_is_operation F_is_operation D_kind_of t_OPERATIONS D__is_page g__is_page D__is_swap g__is_swap D__is_put g__is_put D__is_key_alone g__is_key_alone)
  have D_place : DefQ P w K mg base _ _ _ _ := dq_mk (st := s_place) F_place g_place (F_place.bindsN fun _ _ _ _ _ _ us hl => match us, hl with | [_], _ => rfl) (ok_place F_place D_is_operation x_BadOperation)
  have D_is_within : DefQ P w K mg base _ _ _ _ := dq_mk (st := s_is_within) F_is_within g_is_within (F_is_within.bindsN fun _ _ _ _ _ _ us hl => match us, hl with | [_, _, _], _ => rfl) (ok_is_within F_is_within D_place D_contains)
  have D__get : DefQ P w K mg base _ _ _ _ := dq_mk (st := s__get) F__get g__get (F__get.bindsN fun _ _ _ _ _ _ us hl => match us, hl with | [_, _, _], _ => rfl) (ok__get F__get u_NONE)
  have D__put : DefQ P w K mg base _ _ _ _ := dq_mk (st := s__put) F__put g__put (F__put.bindsN fun _ _ _ _ _ _ us hl => match us, hl with | [_, _, _], _ => rfl) (ok__put F__put u_DONE)
  have D__drop : DefQ P w K mg base _ _ _ _ := dq_mk (st := s__drop) F__drop g__drop (F__drop.bindsN fun _ _ _ _ _ _ us hl => match us, hl with | [_, _, _], _ => rfl) (ok__drop F__drop u_NONE u_DONE)
  have D__swap : DefQ P w K mg base _ _ _ _ := dq_mk (st := s__swap) F__swap g__swap (F__swap.bindsN fun _ _ _ _ _ _ us hl => match us, hl with | [_, _, _], _ => rfl) (ok__swap F__swap u_NONE u_DONE)
  have D__page : DefQ P w K mg base _ _ _ _ := dq_mk (st := s__page) F__page g__page (F__page.bindsN fun _ _ _ _ _ _ us hl => match us, hl with | [_, _, _], _ => rfl) (ok__page F__page z_sorted z_tuple z_len)
  have D_apply : DefQ P w K mg base _ _ _ _ := dq_mk (st := s_apply) F_apply g_apply (F_apply.bindsN fun _ _ _ _ _ _ us hl => match us, hl with | [_, _, _], _ => rfl) (ok_apply F_apply t_ACTIONS D__page g__page D__swap g__swap D__drop g__drop D__put g__put D__get g__get)
  have D__is_word_alone : DefQ P w K mg base _ _ _ _ := dq_mk (st := s__is_word_alone) F__is_word_alone g__is_word_alone (F__is_word_alone.bindsN fun _ _ _ _ _ _ us hl => match us, hl with | [_], _ => rfl) (ok__is_word_alone F__is_word_alone z_len)
  have D__is_value_told : DefQ P w K mg base _ _ _ _ := dq_mk (st := s__is_value_told) F__is_value_told g__is_value_told (F__is_value_told.bindsN fun _ _ _ _ _ _ us hl => match us, hl with | [_], _ => rfl) (ok__is_value_told F__is_value_told D_is_value z_len)
  have D__is_page_told : DefQ P w K mg base _ _ _ _ := dq_mk (st := s__is_page_told) F__is_page_told g__is_page_told (F__is_page_told.bindsN fun _ _ _ _ _ _ us hl => match us, hl with | [_], _ => rfl) (ok__is_page_told F__is_page_told z_len c_MOST_PAGE D_are_pairs D_is_key D_below)
  have D_is_answer : DefQ P w K mg base _ _ _ _ := dq_mk (st := s_is_answer) F_is_answer g_is_answer (F_is_answer.bindsN fun _ _ _ _ _ _ us hl => match us, hl with | [_], _ => rfl) (ok_is_answer F_is_answer D_kind_of t_ANSWERS D__is_page_told g__is_page_told D__is_word_alone g__is_word_alone D__is_value_told g__is_value_told)
  have D_is_client : DefQ P w K mg base _ _ _ _ := dq_mk (st := s_is_client) F_is_client g_is_client (F_is_client.bindsN fun _ _ _ _ _ _ us hl => match us, hl with | [_], _ => rfl) (ok_is_client F_is_client c_MOST_CLIENTS D_is_integer)
  have D_is_pairs : DefQ P w K mg base _ _ _ _ := dq_mk (st := s_is_pairs) F_is_pairs g_is_pairs (F_is_pairs.bindsN fun _ _ _ _ _ _ us hl => match us, hl with | [_, _, _], _ => rfl) (ok_is_pairs F_is_pairs D_are_pairs D_contains)
  have D_is_number : DefQ P w K mg base _ _ _ _ := dq_mk (st := s_is_number) F_is_number g_is_number (F_is_number.bindsN fun _ _ _ _ _ _ us hl => match us, hl with | [_], _ => rfl) (ok_is_number F_is_number c_MOST_NUMBER D_is_integer)
  have D__is_row : DefQ P w K mg base _ _ _ _ := dq_mk (st := s__is_row) F__is_row g__is_row (F__is_row.bindsN fun _ _ _ _ _ _ us hl => match us, hl with | [_], _ => rfl) (ok__is_row F__is_row z_len z_isinstance z_tuple D_is_answer D_is_number D_is_client)
  have D_is_rows : DefQ P w K mg base _ _ _ _ := dq_mk (st := s_is_rows) F_is_rows g_is_rows (F_is_rows.bindsN fun _ _ _ _ _ _ us hl => match us, hl with | [_], _ => rfl) (ok_is_rows F_is_rows z_isinstance z_tuple D__is_row)
  have K_Sessions : MakQ P w K mg base _ "Sessions" _ _ := ⟨g_Sessions, _, _, ok_Sessions___init__ F_Sessions___init__ l_Sessions n_Sessions__last, He.mkr_ok (c.fact 108 (f := .mkr "Sessions") rfl), F_Sessions___init__.bindsN fun _ _ _ _ _ _ us hl => match us, hl with | [_], _ => rfl⟩
  have M_Sessions_status : MetQ P w K mg base _ "Sessions" "status" _ _ := ⟨l_Sessions, _, _, ok_Sessions_status F_Sessions_status l_Sessions n_Sessions__last, He.meth_ok (c.fact 92 (f := .meth "Sessions" "status") rfl), F_Sessions_status.bindsN fun _ _ _ _ _ _ us hl => match us, hl with | [_, _, _], _ => rfl⟩
  have M_Sessions_answer : MetQ P w K mg base _ "Sessions" "answer" _ _ := ⟨l_Sessions, _, _, ok_Sessions_answer F_Sessions_answer l_Sessions n_Sessions__last x_BadShard, He.meth_ok (c.fact 93 (f := .meth "Sessions" "answer") rfl), F_Sessions_answer.bindsN fun _ _ _ _ _ _ us hl => match us, hl with | [_, _], _ => rfl⟩
  have M_Sessions_remember : MetQ P w K mg base _ "Sessions" "remember" _ _ := ⟨l_Sessions, _, _, ok_Sessions_remember F_Sessions_remember M_Sessions_status x_BadShard l_Sessions n_Sessions__last, He.meth_ok (c.fact 94 (f := .meth "Sessions" "remember") rfl), F_Sessions_remember.bindsN fun _ _ _ _ _ _ us hl => match us, hl with | [_, _, _, _], _ => rfl⟩
  have M_Sessions_rows : MetQ P w K mg base _ "Sessions" "rows" _ _ := ⟨l_Sessions, _, _, ok_Sessions_rows F_Sessions_rows z_tuple z_sorted l_Sessions n_Sessions__last, He.meth_ok (c.fact 95 (f := .meth "Sessions" "rows") rfl), F_Sessions_rows.bindsN fun _ _ _ _ _ _ us hl => match us, hl with | [_], _ => rfl⟩
  have M_Sessions_merged : MetQ P w K mg base _ "Sessions" "merged" _ _ := ⟨l_Sessions, _, _, ok_Sessions_merged F_Sessions_merged D__wall, He.meth_ok (c.fact 96 (f := .meth "Sessions" "merged") rfl), F_Sessions_merged.bindsN fun _ _ _ _ _ _ us hl => match us, hl with | [_, _], _ => rfl⟩
  have M_Sessions_clone : MetQ P w K mg base _ "Sessions" "clone" _ _ := ⟨l_Sessions, _, _, ok_Sessions_clone F_Sessions_clone D__wall, He.meth_ok (c.fact 97 (f := .meth "Sessions" "clone") rfl), F_Sessions_clone.bindsN fun _ _ _ _ _ _ us hl => match us, hl with | [_], _ => rfl⟩
  have K_Shard : MakQ P w K mg base _ "Shard" _ _ := ⟨g_Shard, _, _, ok_Shard___init__ F_Shard___init__ c_MOST_NUMBER D_is_integer D_is_range x_BadShard l_Shard n_Shard_low n_Shard_high n_Shard_epoch n_Shard__items K_Sessions n_Shard__sessions, He.mkr_ok (c.fact 109 (f := .mkr "Shard") rfl), F_Shard___init__.bindsN fun _ _ _ _ _ _ us hl => match us, hl with | [_, _, _, _], _ => rfl⟩
  have M_Shard_has : MetQ P w K mg base _ "Shard" "has" _ _ := ⟨l_Shard, _, _, ok_Shard_has F_Shard_has l_Shard n_Shard_high n_Shard_low D_contains, He.meth_ok (c.fact 98 (f := .meth "Shard" "has") rfl), F_Shard_has.bindsN fun _ _ _ _ _ _ us hl => match us, hl with | [_, _], _ => rfl⟩
  have M_Shard_size : MetQ P w K mg base _ "Shard" "size" _ _ := ⟨l_Shard, _, _, ok_Shard_size F_Shard_size z_len l_Shard n_Shard__items, He.meth_ok (c.fact 99 (f := .meth "Shard" "size") rfl), F_Shard_size.bindsN fun _ _ _ _ _ _ us hl => match us, hl with | [_], _ => rfl⟩
  have M_Shard_middle : MetQ P w K mg base _ "Shard" "middle" _ _ := ⟨l_Shard, _, _, ok_Shard_middle F_Shard_middle D__wall, He.meth_ok (c.fact 100 (f := .meth "Shard" "middle") rfl), F_Shard_middle.bindsN fun _ _ _ _ _ _ us hl => match us, hl with | [_], _ => rfl⟩
  have M_Shard_status : MetQ P w K mg base _ "Shard" "status" _ _ := ⟨l_Shard, _, _, ok_Shard_status F_Shard_status l_Shard n_Shard__sessions M_Sessions_status, He.meth_ok (c.fact 101 (f := .meth "Shard" "status") rfl), F_Shard_status.bindsN fun _ _ _ _ _ _ us hl => match us, hl with | [_, _, _], _ => rfl⟩
  have M_Shard_answer : MetQ P w K mg base _ "Shard" "answer" _ _ := ⟨l_Shard, _, _, ok_Shard_answer F_Shard_answer l_Shard n_Shard__sessions M_Sessions_answer, He.meth_ok (c.fact 102 (f := .meth "Shard" "answer") rfl), F_Shard_answer.bindsN fun _ _ _ _ _ _ us hl => match us, hl with | [_, _], _ => rfl⟩
  have M_Shard_serve : MetQ P w K mg base _ "Shard" "serve" _ _ := ⟨l_Shard, _, _, ok_Shard_serve F_Shard_serve l_Shard n_Shard_high n_Shard_low D_is_within x_BadShard M_Shard_status n_Shard__items D_apply n_Shard__sessions M_Sessions_remember M_Shard_answer, He.meth_ok (c.fact 103 (f := .meth "Shard" "serve") rfl), F_Shard_serve.bindsN fun _ _ _ _ _ _ us hl => match us, hl with | [_, _, _, _], _ => rfl⟩
  have M_Shard_split : MetQ P w K mg base _ "Shard" "split" _ _ := ⟨l_Shard, _, _, ok_Shard_split F_Shard_split D__wall, He.meth_ok (c.fact 104 (f := .meth "Shard" "split") rfl), F_Shard_split.bindsN fun _ _ _ _ _ _ us hl => match us, hl with | [_, _], _ => rfl⟩
  have M_Shard_join : MetQ P w K mg base _ "Shard" "join" _ _ := ⟨l_Shard, _, _, ok_Shard_join F_Shard_join D__wall, He.meth_ok (c.fact 105 (f := .meth "Shard" "join") rfl), F_Shard_join.bindsN fun _ _ _ _ _ _ us hl => match us, hl with | [_, _], _ => rfl⟩
  have M_Shard_content : MetQ P w K mg base _ "Shard" "content" _ _ := ⟨l_Shard, _, _, ok_Shard_content F_Shard_content z_tuple z_sorted l_Shard n_Shard__items n_Shard__sessions M_Sessions_rows, He.meth_ok (c.fact 106 (f := .meth "Shard" "content") rfl), F_Shard_content.bindsN fun _ _ _ _ _ _ us hl => match us, hl with | [_], _ => rfl⟩
  have M_Shard_clone : MetQ P w K mg base _ "Shard" "clone" _ _ := ⟨l_Shard, _, _, ok_Shard_clone F_Shard_clone D__wall, He.meth_ok (c.fact 107 (f := .meth "Shard" "clone") rfl), F_Shard_clone.bindsN fun _ _ _ _ _ _ us hl => match us, hl with | [_], _ => rfl⟩
  have D_made : DefQ P w K mg base _ _ _ _ := dq_mk (st := s_made) F_made g_made (F_made.bindsN fun _ _ _ _ _ _ us hl => match us, hl with | [_, _, _, _, _], _ => rfl) (ok_made F_made K_Shard D_is_rows D_is_pairs x_BadShard l_Shard n_Shard__items n_Shard__sessions M_Sessions_remember)
  have D__law_cell : DefQ P w K mg base _ _ _ _ := dq_mk (st := s__law_cell) F__law_cell g__law_cell (F__law_cell.bindsN fun _ _ _ _ _ _ us hl => match us, hl with | [_, _], _ => rfl) (ok__law_cell F__law_cell z_len z_int)
  have D__law_rich : DefQ P w K mg base _ _ _ _ := dq_mk (st := s__law_rich) F__law_rich g__law_rich (F__law_rich.bindsN fun _ _ _ _ _ _ us hl => match us, hl with | [_, _], _ => rfl) (ok__law_rich F__law_rich z_int)
  have D__law_word : DefQ P w K mg base _ _ _ _ := dq_mk (st := s__law_word) F__law_word g__law_word (F__law_word.bindsN fun _ _ _ _ _ _ us hl => match us, hl with | [_, _, _], _ => rfl) (ok__law_word F__law_word z_int z_range z_len)
  have D__law_key : DefQ P w K mg base _ _ _ _ := dq_mk (st := s__law_key) F__law_key g__law_key (F__law_key.bindsN fun _ _ _ _ _ _ us hl => match us, hl with | [_], _ => rfl) (ok__law_key F__law_key z_int D__law_word)
  have D__law_bound : DefQ P w K mg base _ _ _ _ := dq_mk (st := s__law_bound) F__law_bound g__law_bound (F__law_bound.bindsN fun _ _ _ _ _ _ us hl => match us, hl with | [_], _ => rfl) (ok__law_bound F__law_bound z_int D__law_key)
  have D__law_value : DefQ P w K mg base _ _ _ _ := dq_mk (st := s__law_value) F__law_value g__law_value (F__law_value.bindsN fun _ _ _ _ _ _ us hl => match us, hl with | [_], _ => rfl) (ok__law_value F__law_value z_int D__law_word)
  have D__law_range : DefQ P w K mg base _ _ _ _ := dq_mk (st := s__law_range) F__law_range g__law_range (F__law_range.bindsN fun _ _ _ _ _ _ us hl => match us, hl with | [_], _ => rfl) (ok__law_range F__law_range D__law_bound z_max z_min)
  have D__law_operation : DefQ P w K mg base _ _ _ _ := dq_mk (st := s__law_operation) F__law_operation g__law_operation (F__law_operation.bindsN fun _ _ _ _ _ _ us hl => match us, hl with | [_], _ => rfl) (ok__law_operation F__law_operation D__law_bound D__law_key D__law_value)
  have D__law_filled : DefQ P w K mg base _ _ _ _ := dq_mk (st := s__law_filled) F__law_filled g__law_filled (F__law_filled.bindsN fun _ _ _ _ _ _ us hl => match us, hl with | [_, _, _, _, _], _ => rfl) (ok__law_filled F__law_filled K_Shard z_range z_min z_len D__law_rich D__law_key M_Shard_has D__law_value M_Shard_serve)
  have D__law_spoilt : DefQ P w K mg base _ _ _ _ := dq_mk (st := s__law_spoilt) F__law_spoilt g__law_spoilt (F__law_spoilt.bindsN fun _ _ _ _ _ _ us hl => match us, hl with | [_, _], _ => rfl) (ok__law_spoilt F__law_spoilt z_list z_len)
  have D__law_is_bound : DefQ P w K mg base _ _ _ _ := dq_mk (st := s__law_is_bound) F__law_is_bound g__law_is_bound (F__law_is_bound.bindsN fun _ _ _ _ _ _ us hl => match us, hl with | [_], _ => rfl) (ok__law_is_bound F__law_is_bound z_len z_isinstance z_str z_all)
  have D__law_rises : DefQ P w K mg base _ _ _ _ := dq_mk (st := s__law_rises) F__law_rises g__law_rises (F__law_rises.bindsN fun _ _ _ _ _ _ us hl => match us, hl with | [_], _ => rfl) (ok__law_rises F__law_rises z_all z_range z_len)
  have D__law_right : DefQ P w K mg base _ _ _ _ := dq_mk (st := s__law_right) F__law_right g__law_right (F__law_right.bindsN fun _ _ _ _ _ _ us hl => match us, hl with | [_, _, _], _ => rfl) (ok__law_right F__law_right D__law_is_bound z_isinstance z_bool z_int z_tuple D__law_rises)
  have D__law_made : DefQ P w K mg base _ _ _ _ := dq_mk (st := s__law_made) F__law_made g__law_made (F__law_made.bindsN fun _ _ _ _ _ _ us hl => match us, hl with | [_, _], _ => rfl) (ok__law_made F__law_made D_made K_Shard x_BadShard em_BadShard)
  exact ok_law F_law D__law_cell D__law_rich D__law_range D__law_filled M_Shard_content D__law_spoilt D__law_right D__law_made l_Shard n_Shard_epoch n_Shard_high n_Shard_low z_range z_min z_len D__law_operation M_Shard_has M_Shard_serve
end K26
open PySem PySem.W PySem.Calls PyProof.Rows
theorem PySem.Challenge.cw_boundstone_k26_shards_made_from_content_holds : PySem.Challenge.rw_boundstone_k26_shards_made_from_content.Holds := by
  w_on; o_law
  refine HandSHeadRun.head_any (r := OpenLaw.row PySem.Challenge.rw_boundstone_k26_shards_made_from_content) (q := view (OpenLaw.row PySem.Challenge.rw_boundstone_k26_shards_made_from_content).prog [73]) (H := K26.hk) (ob := K26.ob) (M := 8000) (loose := K26.loose) (d := HandSHeadRun.topDef (OpenLaw.row PySem.Challenge.rw_boundstone_k26_shards_made_from_content).prog 73) (kwd := []) K26.ob_eq
    (by kernel_rfl) (fun s => by kernel_rfl) K26.run (by kernel_rfl) (by kernel_rfl) (by kernel_rfl) (by rfl) (by first | assumption | decide +kernel) (by decide +kernel) ⟨rfl, rfl, rfl, rfl, rfl, by decide +kernel⟩ ?hw ?hc
  case hw => w_witness2
  case hc =>
    refine L2.walk_ofE (l := PySem.Challenge.rw_boundstone_k26_shards_made_from_content) (n := 63) (k := 11) (x := "script") (CX := L2.CX0) rfl (by decide) (by kernel_rfl) ⟨rfl, by decide, by decide⟩ ?F (fun _ _ _ _ z => z)
    intro w mg fa h Y G hmg0
    obtain ⟨K, KX, c⟩ := Y
    have hmg : mg ("law" : PySem.Str) = some (.ref fa) := by
      have e : (HandSHeadRun.topDef (OpenLaw.row PySem.Challenge.rw_boundstone_k26_shards_made_from_content).prog 73).name = ("law" : PySem.Str) := by kernel_rfl
      rw [← e]
      exact hmg0
    obtain ⟨fd, hb, hF⟩ := K26.facts (P := (PySem.Challenge.rw_boundstone_k26_shards_made_from_content).prog) (w := w) KX G hmg c
    have hn : Q.noLst K = true := by
      have mo : K26.ex K = true := c.more
      have mo := (Bool.and_eq_true_iff.mp mo).1
      have mo := (Bool.and_eq_true_iff.mp mo).1
      have mo := (Bool.and_eq_true_iff.mp mo).1
      have mo := (Bool.and_eq_true_iff.mp mo).1
      have mo := (Bool.and_eq_true_iff.mp mo).1
      exact mo
    exact ⟨K, fd, Q.spL K Q.f_law_13, KX, hb, fun H a ns hl _ hS => Q.law_end hn hl hS Q.law_k26, hF⟩
